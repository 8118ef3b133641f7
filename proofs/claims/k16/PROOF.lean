import PyProof.Rows.All
import Wide.All
import OpenK.AllK
import Wide.FinOn
import HandS.ForMost
import HandS.Gcd
import HandS.Wide
import HandS.WideBits
import HandS.IsInst
import HandS.SetKeys
import KE.GoesEnumKw
import HandS.More
import KE.KEqSeq
import HandS.Style
import HandS.Walk
import PySem.Challenge.RW_mixserver_k16_whole_loudness_and_softnes
set_option Elab.async false
set_option linter.all false
set_option maxRecDepth 100000
set_option maxHeartbeats 1000000
namespace Mx
open PySem L2

/-! ### own defs, methods, classes as bundles -/
structure OwnF (P : Program) (w : World) (K : PySem.W.Frag) (mg : Str → Option Value) (base : Heap) (x : Str) (k : Nat) (ps : List Str) (sp : Sp) : Prop where
  ex : ∃ (f : Addr) (fd : FuncData), FnOk P w K mg base CX0 k f fd ps sp ∧ mg x = some (.ref f) ∧ PySem.W.keepIn K (.ref f) = true ∧ Binds K fd ps []
structure OwnM (P : Program) (w : World) (K : PySem.W.Frag) (mg : Str → Option Value) (base : Heap) (C : Addr) (m : Str) (k : Nat) (ps : List Str) (sp : Sp) : Prop where
  ex : ∃ (f : Addr) (fd : FuncData), FnOk P w K mg base CX0 k f fd ps sp ∧ Cls K C ∧ Meth K C m f ∧ Binds K fd ps []
structure OwnC (P : Program) (w : World) (K : PySem.W.Frag) (mg : Str → Option Value) (base : Heap) (C : Addr) (x : Str) (k : Nat) (ps : List Str) (sp : Sp) : Prop where
  ex : ∃ (f : Addr) (fd : FuncData), FnOk P w K mg base CX0 k f fd ps sp ∧ mg x = some (.ref C) ∧ Mk K C f ∧ Binds K fd ps []
section
variable {X : Cx} {x m : Str} {k : Nat} {ps : List Str} {sp : Sp} {C : Addr} {p pos apos : Pos} {e o : Expr} {es : List Expr} {t : TA} {to : TE}
theorem p_call (G : OwnF X.prog X.w X.K X.mg X.base x k ps sp) (hr : Room k X.A) (ha : PA X (e :: es) t) (hg : Gl X x := by rfl) (hdb : (x == ("__debug__" : Str)) = false := by decide)
    (he : starEach (e :: es) X.env = (false, eval e X.env) :: starEach es X.env := by rfl) (hpl : (backTo pos (starEach es X.env)).any (·.1) = false := by rfl) :
    PE X (.Call (.Name x p) (e :: es) [] pos) (tCall sp [] E0 t) := by
  obtain ⟨f, fd, G, hm, hk, hb⟩ := G.ex
  exact pe_call G hr hg hm hk hb .nil pass0 ha hdb he hpl
theorem p_make (G : OwnC X.prog X.w X.K X.mg X.base C x k ps sp) (hr : Room (k + 1) X.A) (ha : PA X (e :: es) t) (hg : Gl X x := by rfl) (hdb : (x == ("__debug__" : Str)) = false := by decide)
    (he : starEach (e :: es) X.env = (false, eval e X.env) :: starEach es X.env := by rfl) (hpl : (backTo pos (starEach es X.env)).any (·.1) = false := by rfl) :
    PE X (.Call (.Name x p) (e :: es) [] pos) (tMake C sp [] E0 t) := by
  obtain ⟨f, fd, G, hm, hM, hb⟩ := G.ex
  exact pe_make hM G hr hg hm hb .nil pass0 ha hdb he hpl
theorem p_meth {pl : Sem Bool} (G : OwnM X.prog X.w X.K X.mg X.base C m k ps sp) (hr : Room k X.A) (ho : PE X o to) (ha : PA X (e :: es) t)
    (hst : starEach (e :: es) X.env = (false, eval e X.env) :: starEach es X.env := by rfl) (hpl : (backTo pos (starEach es X.env)).any (·.1) = false := by rfl)
    (ht : eval (.Call (.Attribute o m apos) (e :: es) [] pos) X.env = (do
      let ov ← eval o X.env
      standAt apos.atName
      let (f, first) ← holding [ov] (getMethod ov m pl)
      callWith pos f first (backTo pos (starEach (e :: es) X.env)) (backToKw pos (keywordEach [] X.env))) := by rfl) :
    PE X (.Call (.Attribute o m apos) (e :: es) [] pos) (tMeth C m sp [] E0 to t) := by
  obtain ⟨f, fd, G, hc, hm, hb⟩ := G.ex
  exact pe_meth ho hc hm G hr hb .nil pass0 ha hst hpl ht
theorem p_meth0 {pl : Sem Bool} (G : OwnM X.prog X.w X.K X.mg X.base C m k ps sp) (hr : Room k X.A) (ho : PE X o to)
    (ht : eval (.Call (.Attribute o m apos) [] [] pos) X.env = (do
      let ov ← eval o X.env
      standAt apos.atName
      let (f, first) ← holding [ov] (getMethod ov m pl)
      callWith pos f first (backTo pos (starEach [] X.env)) (backToKw pos (keywordEach [] X.env))) := by rfl) :
    PE X (.Call (.Attribute o m apos) [] [] pos) (tMeth C m sp [] E0 to tNil) := by
  obtain ⟨f, fd, G, hc, hm, hb⟩ := G.ex
  exact pe_meth0 ho hc hm G hr hb .nil pass0 ht
end

/-! ### o.f as a target in a tuple of targets -/
def gFld (K : PySem.W.Frag) (to : TE) (f : Str) : TG := fun y σ H Q => to σ H fun x H2 => ∃ a C dx fs, x = .ref a ∧ H2 a = some (.ins C dx fs) ∧ Cls K C ∧ NoAttr K C f ∧ fs.length < 1000 ∧ Q σ (upd H2 a (.ins C dx (putF f y fs)))
theorem pg_fld {X : Cx} {o : Expr} {to : TE} {f : Str} {pos : Pos} (ho : PE X o to)
    (ha : ∀ v, assign (.Attribute o f pos) X.env v = (do
      let ov ← holding [v] (eval o X.env)
      standAt pos.atName
      holding [v, ov] (setAttr ov f v)
      release [v, ov] []) := by intro _; rfl) : PG X (.Attribute o f pos) (gFld X.K to f) := by
  refine ⟨fun pins s σ H v u Q I r h => ?_⟩
  rw [ha]
  refine PySem.wpAny_bind (PySem.wpAny_holding (thn (ho.run pins s σ H _ I h) fun ov s1 ⟨x, H1, I1, r1, a, C, dx, fs, ex, ea, c, n, l, q⟩ => ?_))
  subst ex
  obtain rfl : ov = Value.ref a := r1
  exact PySem.wpAny_bind (PySem.wpAny_standAt (PySem.wpAny_bind (PySem.wpAny_holding (setattr_ok I1 ea c n l r fun s3 I3 => PySem.wpAny_release ⟨σ, _, I3, q⟩))))

/-! ### fields -/
theorem lk_eq {k : Str} {v : V} {r : List (Str × V)} : List.lookup k ((k, v) :: r) = some v := by
  simp [List.lookup]
theorem lk_ne {k j : Str} {v : V} {r : List (Str × V)} (h : (k == j) = false) : List.lookup k ((j, v) :: r) = List.lookup k r := by
  simp [List.lookup, h]
theorem pf_eq {k : Str} {v u : V} {r : List (Str × V)} : putF k v ((k, u) :: r) = (k, v) :: r := by
  show (if k = k then _ else _) = _
  rw [if_pos rfl]
theorem pf_ne {k j : Str} {v u : V} {r : List (Str × V)} (h : (k == j) = false) : putF k v ((j, u) :: r) = (j, u) :: putF k v r := by
  have h' : ¬ j = k := by
    intro e
    subst e
    simp at h
  show (if j = k then _ else _) = _
  rw [if_neg h']

/-! ### what stays -/
/-- all tracked things stand but those in F; tuples stand always -/
structure Stp (F : List Addr) (H H' : Hp) : Prop where
  keep : ∀ b o, H b = some o → b ∉ F → H' b = some o
  tup : ∀ b xs, H b = some (.tup xs) → H' b = some (.tup xs)
theorem Stp.refl {H : Hp} : Stp [] H H := ⟨fun _ _ h _ => h, fun _ _ h => h⟩
theorem Stp.of {H H' : Hp} (h : Same H H') : Stp [] H H' := ⟨fun b o e _ => h b o e, fun b xs e => h b _ e⟩
theorem Stp.same {H H' : Hp} (h : Stp [] H H') : Same H H' := fun b o e => h.keep b o e (by simp)
theorem Stp.trans {F G : List Addr} {H H1 H2 : Hp} (a : Stp F H H1) (b : Stp G H1 H2) : Stp (F ++ G) H H2 :=
  ⟨fun c o e n => b.keep c o (a.keep c o e fun z => n (List.mem_append_left _ z)) fun z => n (List.mem_append_right _ z), fun c xs e => b.tup c xs (a.tup c xs e)⟩
theorem Stp.sub {F G : List Addr} {H H' : Hp} (a : Stp F H H') (s : ∀ b ∈ F, b ∈ G) : Stp G H H' := ⟨fun c o e n => a.keep c o e fun z => n (s c z), a.tup⟩
/-- what H does not know may change -/
theorem Stp.subN {F G : List Addr} {H H' : Hp} (a : Stp F H H') (s : ∀ b ∈ F, b ∈ G ∨ H b = none) : Stp G H H' :=
  ⟨fun c o e n => a.keep c o e fun z => (s c z).elim n (fun q => by rw [e] at q; cases q), a.tup⟩
theorem Stp.new {H : Hp} {p : Addr} {o : HO} (h : H p = none) : Stp [] H (upd H p o) := .of fun b u e => by rw [upd_ne (ne_of_none e h)]; exact e
theorem Stp.put {H : Hp} {p : Addr} {o u : HO} (h : H p = some u) (n : ∀ xs, u ≠ .tup xs) : Stp [p] H (upd H p o) :=
  ⟨fun b x e q => by rw [upd_ne (by simpa using q)]; exact e, fun b xs e => by rw [upd_ne (ne_of e h (fun z => n xs z.symm))]; exact e⟩
theorem Stp.free {F : List Addr} {H H' : Hp} (a : Stp F H H') {p : Addr} (h : H' p = none) (n : p ∉ F) : H p = none := by
  cases q : H p with
  | none => rfl
  | some o =>
    rw [a.keep p o q n] at h
    cases h

/-! ### tuples that are read -/
def TupAt (K : PySem.W.Frag) (H : Hp) (a : Addr) (xs : List V) : Prop := H a = some (.tup xs) ∨ ∀ H' : Hp, SqT K H' a xs
theorem TupAt.sq {K : PySem.W.Frag} {H : Hp} {a : Addr} {xs : List V} (h : TupAt K H a xs) : SqT K H a xs := h.elim (fun q => .inl (.inl q)) fun q => q H
theorem TupAt.st {K : PySem.W.Frag} {F : List Addr} {H H' : Hp} {a : Addr} {xs : List V} (h : TupAt K H a xs) (s : Stp F H H') : TupAt K H' a xs := h.elim (fun q => .inl (s.tup _ _ q)) .inr

/-! ### fractions -/
/-- v is the fraction q, a tuple in lowest terms -/
def IsQ (K : PySem.W.Frag) (H : Hp) (v : V) (q : Rat) : Prop := ∃ a, v = .ref a ∧ TupAt K H a [.int q.num, .int (q.den : Int)]
theorem IsQ.st {K : PySem.W.Frag} {F : List Addr} {H H' : Hp} {v : V} {q : Rat} (h : IsQ K H v q) (s : Stp F H H') : IsQ K H' v q := by
  obtain ⟨a, e, t⟩ := h
  exact ⟨a, e, t.st s⟩
/-- so many bits -/
structure Rb (n : Nat) (q : Rat) : Prop where
  num : q.num.natAbs < 2 ^ n
  den : q.den < 2 ^ n
theorem Rb.mono {n m : Nat} {q : Rat} (h : Rb n q) (l : n ≤ m) : Rb m q := by
  have e : 2 ^ n ≤ 2 ^ m := Nat.pow_le_pow_right (by decide) l
  exact ⟨Nat.lt_of_lt_of_le h.num e, Nat.lt_of_lt_of_le h.den e⟩
theorem mk_num (t : Int) (b : Nat) (h : 0 < b) : (mkRat t b).num = t / ((Nat.gcd t.natAbs b : Nat) : Int) := by
  rw [Rat.num_mkRat, if_neg (by omega), Nat.gcd_comm]
theorem mk_den (t : Int) (b : Nat) (h : 0 < b) : (mkRat t b).den = b / Nat.gcd t.natAbs b := by
  rw [Rat.den_mkRat, if_neg (by omega), Nat.gcd_comm]
theorem Rb.of {n : Nat} {t : Int} {b : Nat} (h0 : 0 < b) (ht : t.natAbs < 2 ^ n) (hb : b < 2 ^ n) : Rb n (mkRat t b) := by
  refine ⟨?_, ?_⟩
  · rw [mk_num t b h0]
    refine Nat.lt_of_le_of_lt ?_ ht
    rw [Int.natAbs_ediv_of_dvd (Int.ofNat_dvd_left.mpr (Nat.gcd_dvd_left _ _))]
    exact Nat.div_le_self _ _
  · rw [mk_den t b h0]
    exact Nat.lt_of_le_of_lt (Nat.div_le_self _ _) hb
theorem add_mk (q r : Rat) : mkRat (q.num * r.den + r.num * q.den) (q.den * r.den) = q + r := by
  rw [Rat.add_def, Rat.normalize_eq_mkRat]
theorem mul_mk (q r : Rat) : mkRat (q.num * r.num) (q.den * r.den) = q * r := by
  rw [Rat.mul_def, Rat.normalize_eq_mkRat]
theorem sub_mk (q r : Rat) : mkRat (q.num * r.den - r.num * q.den) (q.den * r.den) = q - r := by
  rw [Rat.sub_eq_add_neg, ← add_mk, Rat.neg_num, Rat.neg_den, Int.neg_mul, ← Int.sub_eq_add_neg]
/-! ### names and texts -/
theorem ofString_inj {a b : String} : (Str.ofString a = Str.ofString b) = (a = b) := by
  refine propext ⟨fun h => ?_, fun h => by rw [h]⟩
  rw [Str.ofString_eq_toList, Str.ofString_eq_toList] at h
  have h1 : a.toList.map Char.toNat = b.toList.map Char.toNat := by simpa using h
  have h2 : a.toList = b.toList := by
    have inj : ∀ (x y : List Char), x.map Char.toNat = y.map Char.toNat → x = y := by
      intro x
      induction x with
      | nil => intro y e; cases y with
        | nil => rfl
        | cons c r => simp at e
      | cons c r ih => intro y e; cases y with
        | nil => simp at e
        | cons d t =>
          simp only [List.map_cons, List.cons.injEq] at e
          rw [ih t e.2]
          have : c = d := by
            apply Char.ext
            apply UInt32.toNat_inj.mp
            exact e.1
          rw [this]
    exact inj _ _ h1
  exact String.toList_inj.mp h2
theorem ofString_beq {a b : String} : (Str.ofString a == Str.ofString b) = decide (a = b) := by
  by_cases h : a = b
  · subst h
    simp
  · have : ¬ Str.ofString a = Str.ofString b := by
      rw [ofString_inj]
      exact h
    simp [this, h]
theorem lk_cons {k j : Str} {v : V} {r : List (Str × V)} : List.lookup k ((j, v) :: r) = if (k == j) = true then some v else List.lookup k r := by
  cases h : k == j
  · rw [lk_ne h]; simp
  · simp [List.lookup, h]
theorem pf_nil {k : Str} {v : V} : putF k v [] = [(k, v)] := rfl
theorem pf_cons {k j : Str} {v u : V} {r : List (Str × V)} : putF k v ((j, u) :: r) = if (k == j) = true then (k, v) :: r else (j, u) :: putF k v r := by
  cases h : k == j
  · rw [pf_ne h]; simp
  · have : k = j := by simpa using h
    subst this
    rw [pf_eq]
    simp
/-! ### what isinstance tells of ints -/
theorem isi_int {K : PySem.W.Frag} {H : Hp} {Q : VK} {n : Int} {T : String} {b : Bool} (h : kitB "int" T = some b) (q : Q (.bl b) H) : rIsi K [.int n, .ty T] H Q := ⟨_, _, _, _, _, rfl, .ty _, .base (.int _), kit_ty h, q⟩
theorem isi_inv {K : PySem.W.Frag} {H : Hp} {Q : VK} {n : Int} {T : String} {b : Bool} (hb : kitB "int" T = some b) : rIsi K [.int n, .ty T] H Q ↔ Q (.bl b) H := by
  refine ⟨fun h => ?_, isi_int hb⟩
  obtain ⟨x, c, t, u, b', e, hc, ht, hk, q⟩ := h
  simp only [List.cons.injEq, and_true] at e
  obtain ⟨rfl, rfl⟩ := e
  cases hc
  cases ht with
  | base h =>
    cases h
    have : PySem.W.kitOne K (.type "int") (.type T) = some b := kit_ty hb
    rw [this] at hk
    cases hk
    exact q
theorem isi_int_bool {K : PySem.W.Frag} {H : Hp} {Q : VK} {n : Int} : rIsi K [.int n, .ty "bool"] H Q ↔ Q (.bl false) H := isi_inv (by decide +kernel)
theorem isi_int_int {K : PySem.W.Frag} {H : Hp} {Q : VK} {n : Int} : rIsi K [.int n, .ty "int"] H Q ↔ Q (.bl true) H := isi_inv (by decide +kernel)
theorem isi_int_tuple {K : PySem.W.Frag} {H : Hp} {Q : VK} {n : Int} : rIsi K [.int n, .ty "tuple"] H Q ↔ Q (.bl false) H := isi_inv (by decide +kernel)
theorem isi_int_list {K : PySem.W.Frag} {H : Hp} {Q : VK} {n : Int} : rIsi K [.int n, .ty "list"] H Q ↔ Q (.bl false) H := isi_inv (by decide +kernel)
theorem isi_int_str {K : PySem.W.Frag} {H : Hp} {Q : VK} {n : Int} : rIsi K [.int n, .ty "str"] H Q ↔ Q (.bl false) H := isi_inv (by decide +kernel)
theorem scal_int {i j : Int} : scal (.int i) (.int j) = true := rfl
theorem scal_str {i j : Str} : scal (.str i) (.str j) = true := rfl
theorem scal_bl {i j : Bool} : scal (.bl i) (.bl j) = true := rfl
theorem sz_le {n : Nat} (h : n ≤ 100000) : n ≤ sizeLine := Nat.le_trans h (by decide)
theorem sz2 : (2 ≤ sizeLine) = True := eq_true (by decide)
theorem sz1 : (1 ≤ sizeLine) = True := eq_true (by decide)
theorem q0n : (0 : Rat).num = 0 := rfl
theorem q0d : ((0 : Rat).den : Int) = 1 := rfl

/-! ### a list comprehension whose element makes nothing -/
theorem wipe1 {σ : L2.St} {i : Nat} {x : Option V} : wipe ((wipe σ [i]).set i x) [i] = wipe σ [i] := by
  show ((σ.set i none).set i x).set i none = σ.set i none
  rw [List.set_set, List.set_set]
theorem stp_acc {H0 H : Hp} {D : Addr} {o : HO} (h : Stp [] H0 H) (hD : H0 D = none) (hn : ∀ xs, H D ≠ some (.tup xs)) : Stp [] H0 (upd H D o) := .of fun b u e => by
  rw [upd_ne (ne_of_none e hD)]
  exact h.same b u e
theorem lc_pure {K : PySem.W.Frag} {a : Addr} {xs : List V} {i : Nat} {te : TE} {σ : L2.St} {H0 H9 : Hp} {Q : VK} (f : V → V) (hx : SqL K H0 a xs) (hl : xs.length ≤ 100000)
    (he : ∀ x ∈ xs, ∀ (H : Hp) (Q' : VK), Stp [] H0 H → Q' (f x) H → te ((wipe σ [i]).set i (some x)) H Q')
    (k : ∀ D H', H0 D = none → Stp [] H0 H' → H' D = some (.lst (xs.map f)) → Q (.ref D) H') :
    tLc (fun _ _ R => R (Itl K a) H0) (gName i) tYes te [i] σ H9 Q := by
  intro D hD
  refine lc_list (K := K) (a := a) (xs := xs) (fun j H => Stp [] H0 H ∧ H D = some (.lst ((xs.take j).map f))) ⟨Stp.new hD, upd_same⟩ (fun j H _ h => ?_) (fun j x H hj h => ?_) (fun H h => ?_)
  · rcases hx with (q | ⟨o, q⟩) | q
    · exact .inl (.inl (h.1.same _ _ q))
    · exact .inl (.inr ⟨o, h.1.same _ _ q⟩)
    · exact .inr q
  · refine ⟨wipe1, ?_⟩
    simp only [tYes, reduceIte]
    have hm : x ∈ xs := List.mem_of_getElem? hj
    have hjl : j < xs.length := (List.getElem?_eq_some_iff.mp hj).1
    refine he x hm H _ h.1 ⟨(xs.take j).map f, h.2, ?_, ?_, ?_⟩
    · rw [List.length_map, List.length_take]
      exact Nat.lt_of_le_of_lt (Nat.min_le_right _ _) (Nat.lt_of_le_of_lt hl (by decide))
    · exact stp_acc h.1 hD (by rw [h.2]; intro ys z; cases z)
    · rw [upd_same, List.take_add_one, hj]
      simp
  · have h2 := h.2
    rw [List.take_length] at h2
    exact k D H hD h.1 h2

/-! ### o.f = e and o.f op= e, the heap behind told by what stands in it -/
def sFldA (K : PySem.W.Frag) (ta tv : TE) (f : Str) : TS := fun D σ H => tv σ H fun y H1 => ta σ H1 fun x H2 => ∃ a C dx fs, x = .ref a ∧ H2 a = some (.ins C dx fs) ∧ Cls K C ∧ NoAttr K C f ∧ fs.length < 1000 ∧
  ∀ H3, H3 a = some (.ins C dx (putF f y fs)) → Stp [a] H2 H3 → D.nx σ H3
def sFldAugA (K : PySem.W.Frag) (ta tv : TE) (rd : V → V → Hp → VK → Prop) (f : Str) : TS := fun D σ H => ta σ H fun x H1 => ∃ a C dx fs v, x = .ref a ∧ H1 a = some (.ins C dx fs) ∧ Cls K C ∧ NoAttr K C f ∧ fs.lookup f = some v ∧
  tv σ H1 fun y H2 => rd v y H2 fun z H3 => ∃ dx' fs', H3 a = some (.ins C dx' fs') ∧ fs'.length < 1000 ∧ ∀ H4, H4 a = some (.ins C dx' (putF f z fs')) → Stp [a] H3 H4 → D.nx σ H4
section
variable {X : Cx} {o value : Expr} {ta tv : TE} {f : Str} {pos pos' tpos : Pos}
theorem stp_ins {H : Hp} {a C dx : Addr} {fs gs : List (Str × V)} (h : H a = some (.ins C dx fs)) : Stp [a] H (upd H a (.ins C dx gs)) := Stp.put h fun xs z => nomatch z
theorem ps_fldA (ha : PE X o ta) (hv : PE X value tv) (hs : swapsWith value (some (.Attribute o f pos')) pos.line X.env = pure false := by rfl) : PS X (.Assign [.Attribute o f pos'] value pos) (sFldA X.K ta tv f) :=
  ⟨fun pins s σ H D I h => plainObj_wpAny_Assign_Attribute (thn (hv.run pins s σ H _ I h) fun u s1 ⟨y, H1, I1, ry, q⟩ => thn (ha.run pins s1 σ H1 _ I1 q) fun ov s2 ⟨x, H2, I2, rx, a, C, dx, fs, ex, ea, c, n, l, q2⟩ => by
    subst ex
    obtain rfl : ov = Value.ref a := rx
    exact setattr_ok I2 ea c n l ry fun s3 I3 => ⟨σ, _, I3, q2 _ upd_same (stp_ins ea)⟩) hs⟩
theorem ps_fldaugA {op : Operator} {rd : V → V → Hp → VK → Prop} (ha : PE X o ta) (hv : PE X value tv) (hop : InOp X op rd) : PS X (.AugAssign (.Attribute o f tpos) op value pos) (sFldAugA X.K ta tv rd f) :=
  ⟨fun pins s σ H D I h => wpAny_AugAssign_AttributeAny (thn (ha.run pins s σ H _ I h) fun ov s1 ⟨x, H1, I1, rx, a, C, dx, fs, v, ex, ea, c, n, l, q⟩ => by
    subst ex
    obtain rfl : ov = Value.ref a := rx
    refine getattr_ok I1 ea c n l fun u s2 I2 ru => thn (hv.run pins s2 σ H1 _ I2 q) fun u3 s3 ⟨y, H2, I3, ry, q3⟩ => thn (hop pins s3 σ H2 v y u u3 _ I3 ru ry q3) fun u4 s4 ⟨z, H3, I4, rz, dx', fs', ea', l', q4⟩ => ?_
    exact setattr_ok I4 ea' c n l' rz fun s5 I5 => ⟨σ, _, I5, q4 _ upd_same (stp_ins ea')⟩)⟩
end

theorem filt_take {α : Type} (p : α → Bool) (xs : List α) (j : Nat) {x : α} (h : xs[j]? = some x) : (xs.take (j + 1)).filter p = (xs.take j).filter p ++ if p x = true then [x] else [] := by
  rw [List.take_add_one, h, List.filter_append]
  congr 1
  show [x].filter p = _
  rw [List.filter_cons, List.filter_nil]
theorem lc_pureF {K : PySem.W.Frag} {a : Addr} {xs : List V} {i : Nat} {tt : TT} {te : TE} {σ : L2.St} {H0 H9 : Hp} {Q : VK} (p : V → Bool) (hx : SqL K H0 a xs) (hl : xs.length ≤ 100000)
    (ht : ∀ x ∈ xs, ∀ (H : Hp) (Q' : Bool → Hp → Prop), Stp [] H0 H → Q' (p x) H → tt ((wipe σ [i]).set i (some x)) H Q')
    (he : ∀ x ∈ xs, p x = true → ∀ (H : Hp) (Q' : VK), Stp [] H0 H → Q' x H → te ((wipe σ [i]).set i (some x)) H Q')
    (k : ∀ D H', H0 D = none → Stp [] H0 H' → H' D = some (.lst (xs.filter p)) → Q (.ref D) H') :
    tLc (fun _ _ R => R (Itl K a) H0) (gName i) tt te [i] σ H9 Q := by
  intro D hD
  refine lc_list (K := K) (a := a) (xs := xs) (fun j H => Stp [] H0 H ∧ H D = some (.lst ((xs.take j).filter p))) ⟨Stp.new hD, upd_same⟩ (fun j H _ h => ?_) (fun j x H hj h => ?_) (fun H h => ?_)
  · rcases hx with (q | ⟨o, q⟩) | q
    · exact .inl (.inl (h.1.same _ _ q))
    · exact .inl (.inr ⟨o, h.1.same _ _ q⟩)
    · exact .inr q
  · refine ⟨wipe1, ?_⟩
    have hm : x ∈ xs := List.mem_of_getElem? hj
    have ef := filt_take p xs j hj
    refine ht x hm H _ h.1 ?_
    cases e : p x with
    | false =>
      rw [if_neg (by simp)]
      rw [e] at ef
      refine ⟨h.1, ?_⟩
      rw [ef, h.2]
      simp
    | true =>
      rw [if_pos rfl]
      rw [e] at ef
      refine he x hm e H _ h.1 ⟨(xs.take j).filter p, h.2, ?_, ?_, ?_⟩
      · exact Nat.lt_of_le_of_lt (Nat.le_trans (List.length_filter_le _ _) (by rw [List.length_take]; exact Nat.le_trans (Nat.min_le_right _ _) hl)) (by decide)
      · exact stp_acc h.1 hD (by rw [h.2]; intro ys z; cases z)
      · rw [upd_same, ef]
        rfl
  · have h2 := h.2
    rw [List.take_length] at h2
    exact k D H hD h.1 h2

theorem lc_pureFv {K : PySem.W.Frag} {a : Addr} {xs : List V} {i j : Nat} {tt : TT} {te : TE} {σ : L2.St} {H0 : Hp} {Q : VK} (p : V → Bool) (hj : σ[j]? = some (some (.ref a))) (hx : SqL K H0 a xs) (hl : xs.length ≤ 100000)
    (ht : ∀ x ∈ xs, ∀ (H : Hp) (Q' : Bool → Hp → Prop), Stp [] H0 H → Q' (p x) H → tt ((wipe σ [i]).set i (some x)) H Q')
    (he : ∀ x ∈ xs, p x = true → ∀ (H : Hp) (Q' : VK), Stp [] H0 H → Q' x H → te ((wipe σ [i]).set i (some x)) H Q')
    (k : ∀ D H', H0 D = none → Stp [] H0 H' → H' D = some (.lst (xs.filter p)) → Q (.ref D) H') :
    tLc (iList K (tVar j)) (gName i) tt te [i] σ H0 Q := ⟨_, hj, a, rfl, ⟨_, hx⟩, lc_pureF (H9 := H0) (Q := Q) p hx hl ht he k⟩
theorem lc_pureV {K : PySem.W.Frag} {a : Addr} {xs : List V} {i j : Nat} {te : TE} {σ : L2.St} {H0 : Hp} {Q : VK} (f : V → V) (hj : σ[j]? = some (some (.ref a))) (hx : SqL K H0 a xs) (hl : xs.length ≤ 100000)
    (he : ∀ x ∈ xs, ∀ (H : Hp) (Q' : VK), Stp [] H0 H → Q' (f x) H → te ((wipe σ [i]).set i (some x)) H Q')
    (k : ∀ D H', H0 D = none → Stp [] H0 H' → H' D = some (.lst (xs.map f)) → Q (.ref D) H') :
    tLc (iList K (tVar j)) (gName i) tYes te [i] σ H0 Q := ⟨_, hj, a, rfl, ⟨_, hx⟩, lc_pure (H9 := H0) (Q := Q) f hx hl he k⟩
theorem lc_two {K : PySem.W.Frag} {a : Addr} {x y u w : V} {i : Nat} {te : TE} {σ : L2.St} {H0 H9 : Hp} {Q : VK} (hx : H0 a = some (.lst [x, y]))
    (h1 : ∀ (H : Hp) (Q' : VK), Stp [] H0 H → Q' u H → te ((wipe σ [i]).set i (some x)) H Q') (h2 : ∀ (H : Hp) (Q' : VK), Stp [] H0 H → Q' w H → te ((wipe σ [i]).set i (some y)) H Q')
    (k : ∀ D H', H0 D = none → Stp [] H0 H' → H' D = some (.lst [u, w]) → Q (.ref D) H') :
    tLc (fun _ _ R => R (Itl K a) H0) (gName i) tYes te [i] σ H9 Q := by
  intro D hD
  refine lc_list (K := K) (a := a) (xs := [x, y]) (fun j H => Stp [] H0 H ∧ H D = some (.lst (([u, w] : List V).take j))) ⟨Stp.new hD, upd_same⟩ (fun j H _ h => .inl (.inl (h.1.same _ _ hx))) (fun j z H hj h => ?_) (fun H h => ?_)
  · refine ⟨wipe1, ?_⟩
    simp only [tYes, reduceIte]
    match j, hj with
    | 0, hj =>
      cases Option.some.inj hj
      refine h1 H _ h.1 ⟨[], h.2, by decide, stp_acc h.1 hD (by rw [h.2]; intro ys z; cases z), ?_⟩
      rw [upd_same]
      rfl
    | 1, hj =>
      cases Option.some.inj hj
      refine h2 H _ h.1 ⟨[u], h.2, by show 1 < sizeLine; decide, stp_acc h.1 hD (by rw [h.2]; intro ys z; cases z), ?_⟩
      rw [upd_same]
      rfl
  · exact k D H hD h.1 h.2
theorem lc_twoM {K : PySem.W.Frag} {i : Nat} {tl te : TE} {σ : L2.St} {H : Hp} {Q : VK} (Pr : Addr → Hp → Prop) (htl : ∀ R : VK, (∀ p H', Pr p H' → R (.ref p) H') → tl σ H R)
    (h : ∀ p H', Pr p H' → ∃ x y u w : V, H' p = some (.lst [x, y]) ∧ (∀ (H2 : Hp) (Q' : VK), Stp [] H' H2 → Q' u H2 → te ((wipe σ [i]).set i (some x)) H2 Q') ∧ (∀ (H2 : Hp) (Q' : VK), Stp [] H' H2 → Q' w H2 → te ((wipe σ [i]).set i (some y)) H2 Q') ∧
      ∀ D H2, H' D = none → Stp [] H' H2 → H2 D = some (.lst [u, w]) → Q (.ref D) H2) :
    tLc (iList K tl) (gName i) tYes te [i] σ H Q := htl _ fun p H' hp => by
  obtain ⟨x, y, u, w, hl, h1, h2, k⟩ := h p H' hp
  exact ⟨p, rfl, ⟨_, .inl (.inl hl)⟩, lc_two (H9 := H) (Q := Q) hl h1 h2 k⟩
theorem lc_pureR {i j : Nat} {n : Int} {te : TE} {σ : L2.St} {H0 : Hp} {Q : VK} (f : Nat → V) (hj : σ[j]? = some (some (.int n))) (n0 : 0 ≤ n) (n1 : n ≤ 100000)
    (he : ∀ k : Nat, k < n.toNat → ∀ (H : Hp) (Q' : VK), Stp [] H0 H → Q' (f k) H → te ((wipe σ [i]).set i (some (.int (0 + (k : Int))))) H Q')
    (k : ∀ D H', H0 D = none → Stp [] H0 H' → H' D = some (.lst ((List.range n.toNat).map f)) → Q (.ref D) H') :
    tLc (iRng1 (tCons (tVar j) tNil)) (gName i) tYes te [i] σ H0 Q := by
  refine ⟨_, hj, n, rfl, by omega, by omega, fun D hD => lc_range (lo := 0) (n := n.toNat) (fun m H => Stp [] H0 H ∧ H D = some (.lst ((List.range m).map f))) ⟨Stp.new hD, upd_same⟩ (fun m H hm h => ?_) (fun H h => k D H hD h.1 h.2)⟩
  refine ⟨wipe1, ?_⟩
  simp only [tYes, reduceIte]
  refine he m hm H _ h.1 ⟨(List.range m).map f, h.2, ?_, ?_, ?_⟩
  · rw [List.length_map, List.length_range]
    exact Nat.lt_of_le_of_lt (show m ≤ 100000 by omega) (by decide)
  · exact stp_acc h.1 hD (by rw [h.2]; intro ys z; cases z)
  · rw [upd_same, List.range_succ, List.map_append]
    rfl
/-! the same over a tuple -/
theorem lc_pureT {K : PySem.W.Frag} {a : Addr} {xs : List V} {i : Nat} {te : TE} {σ : L2.St} {H0 H9 : Hp} {Q : VK} (f : V → V) (hx : H0 a = some (.tup xs)) (hl : xs.length ≤ 100000)
    (he : ∀ x ∈ xs, ∀ (H : Hp) (Q' : VK), Stp [] H0 H → Q' (f x) H → te ((wipe σ [i]).set i (some x)) H Q')
    (k : ∀ D H', H0 D = none → Stp [] H0 H' → H' D = some (.lst (xs.map f)) → Q (.ref D) H') :
    tLc (fun _ _ R => R (Itt K a) H0) (gName i) tYes te [i] σ H9 Q := by
  intro D hD
  refine lc_tup (K := K) (a := a) (xs := xs) (fun j H => Stp [] H0 H ∧ H D = some (.lst ((xs.take j).map f))) ⟨Stp.new hD, upd_same⟩ (fun j H _ h => .inl (.inl (h.1.same _ _ hx))) (fun j x H hj h => ?_) (fun H h => ?_)
  · refine ⟨wipe1, ?_⟩
    simp only [tYes, reduceIte]
    have hm : x ∈ xs := List.mem_of_getElem? hj
    refine he x hm H _ h.1 ⟨(xs.take j).map f, h.2, ?_, ?_, ?_⟩
    · rw [List.length_map, List.length_take]
      exact Nat.lt_of_le_of_lt (Nat.min_le_right _ _) (Nat.lt_of_le_of_lt hl (by decide))
    · exact stp_acc h.1 hD (by rw [h.2]; intro ys z; cases z)
    · rw [upd_same, List.take_add_one, hj]
      simp
  · have h2 := h.2
    rw [List.take_length] at h2
    exact k D H hD h.1 h2
theorem isi_tup {K : PySem.W.Frag} {H : Hp} {Q : VK} {t : Addr} {xs : List V} (h : H t = some (.tup xs)) (q : Q (.bl true) H) : rIsi K [.ref t, .ty "tuple"] H Q := ⟨_, _, _, _, _, rfl, .ty _, .base (.tup h), kit_ty (by decide +kernel), q⟩
theorem seq_st {K : PySem.W.Frag} {F : List Addr} {H H' : Hp} {a : Addr} {xs : List V} (h : SqL K H a xs) (s : Stp F H H') (n : a ∉ F) : SqL K H' a xs := by
  rcases h with (q | ⟨o, q⟩) | q
  · exact .inl (.inl (s.keep _ _ q n))
  · exact .inl (.inr ⟨o, s.keep _ _ q n⟩)
  · exact .inr q
end Mx

namespace Mx
open PySem L2 PyProof.Rows
/-! ### for i, x in enumerate(xs, start=z) -/
/-- the items of the list at a, each in a new pair with its number, from z on -/
def Itn (K : PySem.W.Frag) (a : Addr) (z : Int) : It where
  go := fun i H => ∃ (xs : List V) (x : V), SqL K H a xs ∧ xs[i]? = some x
  yld := fun i H v H' => ∃ T x, v = .ref T ∧ H T = none ∧ H' = upd H T (.tup [.int (z + (i : Nat)), x]) ∧ ∀ xs, SqL K H a xs → xs[i]? = some x
  stop := fun i H => ∃ xs : List V, SqL K H a xs ∧ xs.length = i
theorem turn_enumS {P : Program} {w : World} {K : PySem.W.Frag} {elts : List Expr} {kk : Nat} {tpos : Pos} (a e it : Addr) (z : Int) :
    Turn P w K (.Tuple elts kk tpos) (Itn K a z) [e, it] e (fun i h => (∃ old, IsEnum h e it (z + ((i : Nat) : Int)) old) ∧ h.IsListIter it a i ∧ e ≠ it ∧ a ≠ it ∧ a ≠ e) where
  mem := List.mem_cons_self
  obj := by
    rintro i h ⟨⟨old, he⟩, ⟨o, ho, hc, hd⟩, _⟩ b hb
    rcases List.mem_cons.mp hb with q | q
    · subst q
      exact ⟨_, he, fun v q => nomatch q⟩
    · rw [List.mem_singleton.mp q]
      exact ⟨o, ho, fun v q => by rw [hd] at q; cases q⟩
  keep := by
    rintro i h h' ⟨⟨old, he⟩, hi, hne⟩ k
    exact ⟨⟨old, k e List.mem_cons_self _ he⟩, hi.at fun o q => k it (List.mem_cons_of_mem _ List.mem_cons_self) o q, hne⟩
  item := by
    intro X hP hw hK hc i pins s σ H E I hf st hg
    subst hP hw hK
    obtain ⟨⟨old, he⟩, hit, hne, hai, hae⟩ := st
    obtain ⟨xs, x, hq, hx⟩ := hg
    obtain ⟨its, rv, p, hz⟩ := I.list hq
    obtain ⟨u, hu, ru⟩ := rv.get hx
    have hel : e < s.heap.objs.size := Heap.lt_size he
    have hil : it < s.heap.objs.size := by
      obtain ⟨_, q, _⟩ := hit
      exact Heap.lt_size q
    have hlt : i < its.length := (List.getElem?_eq_some_iff.mp hu).1
    have D := Draws.list (prog := X.prog) (w := X.w) (A := X.A.in1) (I.ok.hd hc) it a hai its.toArray
    refine wpAny_pyNext_enum_itemC D he ⟨hit, p.isList⟩ (by simpa using hlt) hne (by simp [hne, Ne.symm hae]) fun u' h' tk hu' ho hst hT hsz hk => ?_
    have hu2 : its[i]? = some u' := by simpa using hu'
    rw [hu] at hu2
    cases hu2
    refine ⟨_, rfl, wpAny_letOwnedTupleGo_enum (s := { s with heap := h', toks := tk + 1 }) ho fun h'' he' sb => ?_⟩
    have hT2 : h''.get? s.heap.objs.size = some { cls := .type "tuple", data := .seq #[.int (z + (i : Nat)) tk, u] } := (sb.2 _ (Nat.ne_of_gt hel)).trans hT
    have new : ObjOk X.prog X.w (upd H s.heap.objs.size (.tup [.int (z + (i : Nat)), x])) h'' s.heap.objs.size (.tup [.int (z + (i : Nat)), x]) :=
      ⟨by show 2 ≤ sizeLine; decide, [.int (z + (i : Nat)) tk, u], .cons ⟨_, rfl⟩ (.cons ru .nil), ⟨_, hT2, rfl, _, rfl⟩⟩
    have I1 : Inv X pins σ (upd H s.heap.objs.size (.tup [.int (z + (i : Nat)), x])) { s with heap := h'', toks := tk + 1 } :=
      I.turnedNew (ch := [e, it]) (fun b ob hb q => (sb.2 b (fun v => hb (by simp [v]))).trans (hk b ob (fun v => hb (by simp [v])) (fun v => hb (by simp [v])) q)) hf (Nat.le_refl _) new
    refine ⟨.ref s.heap.objs.size, _, I1, rfl, ⟨_, x, rfl, I.hok.fresh (Nat.le_refl _), rfl, fun ys hy => by rw [I.list_inj hy hq]; exact hx⟩, ⟨⟨u, ?_⟩, hst.1.at fun o q => (sb.2 it (Ne.symm hne)).trans q, hne, hai, hae⟩, fun b hb => ?_⟩
    · have e1 : z + ((i + 1 : Nat) : Int) = z + (i : Int) + 1 := by omega
      rw [e1]
      exact he'
    · have hb' : b < s.heap.objs.size := by
        rcases List.mem_cons.mp hb with q | q
        · rw [q]; exact hel
        · rw [List.mem_singleton.mp q]; exact hil
      rw [upd_ne (Nat.ne_of_lt hb')]
      exact (hf b hb).1
  done := by
    intro X hP hw hK hc i pins s σ H E I hf st hg
    subst hP hw hK
    obtain ⟨⟨old, he⟩, hit, hne, hai, hae⟩ := st
    obtain ⟨xs, hq, hx⟩ := hg
    obtain ⟨its, rv, p, hz⟩ := I.list hq
    obtain ⟨f0, f1, f2, f3, f4, f5⟩ := hf it (List.mem_cons_of_mem _ List.mem_cons_self)
    have hl := rv.length
    have D := Draws.list (prog := X.prog) (w := X.w) (A := X.A.in1) (I.ok.hd hc) it a hai its.toArray
    have hn : i = its.toArray.size := by
      show i = its.length
      omega
    exact wpAny_pyNext_enum_endD D he (by rw [← hn]; exact ⟨hit, p.isList⟩) fun h' eb => ⟨rfl, I.turned (t' := s.toks) (fun b o hb q => eb b o hb q) f0 f1 f3 f4 f5⟩
  self := by
    rintro A i s Q E ⟨⟨_, he⟩, _⟩ h
    exact wpAny_pyIter_enum he h
/-! ### the call with its start by name -/
theorem callWith_tyKw {M : Model} {A : Around} {E : Value → Shared → Prop} {s : Shared} {env : Env} {pos : Pos} {T : String} {e : Expr} {kw : Keyword} {Q : Value → Shared → Prop}
    (h : wpAny M A (spliced (backTo pos (starEach [e] env))) (fun vs s1 => wpAny M A (evalAll ((backToKw pos (keywordEach [kw] env)).map (·.2)))
      (fun kvs s2 => wpAny M A (call (.type T) vs (((backToKw pos (keywordEach [kw] env)).filterMap (·.1)).zip kvs)) Q E s2) E s1) E s)
    (he : backTo pos (starEach [e] env) = (false, eval e env) :: [])
    (hall : (backToKw pos (keywordEach [kw] env)).all (·.1.isSome) = true)
    (hkw : (backToKw pos (keywordEach [kw] env)).any (·.1.isNone) = false) :
    wpAny M A (callWith pos (.type T) [] (backTo pos (starEach [e] env)) (backToKw pos (keywordEach [kw] env))) Q E s := by
  rw [he] at h ⊢
  have h2 := evalArgs_kwB (f := .type T) (Q := fun a s1 => wpAny M A (call (.type T) ([] ++ a.pos) a.kw) Q E s1) hall h
  unfold callWith
  refine wpAny_bind (wpAny_holding (wpAny_mono h2 (fun a s1 h1 => wpAny_bind (wpAny_standAt ?_)) (fun _ _ x => x)))
  simp only [List.any_cons, List.any_nil, hkw, Bool.or_false]
  refine wpAny_bind (wpAny_pure ?_)
  exact wpAny_bind (wpAny_mono h1 (fun r s2 hr => wpAny_bind (wpAny_holding (wpAny_point (wpAny_pure hr)))) (fun _ _ x => x))
def iEnumS (K : PySem.W.Frag) (te tz : TE) : TI := fun σ H R => te σ H fun x H1 => tz σ H1 fun y H2 => ∃ a xs z, x = .ref a ∧ y = .int z ∧ SqL K H2 a xs ∧ -(2 ^ 63) ≤ z ∧ z < 2 ^ 63 ∧ R (Itn K a z) H2
theorem pi_enumS {X : Cx} {e ez : Expr} {te tz : TE} {p pos tpos kp : Pos} {elts : List Expr} {kk : Nat} (hg : Gl X "enumerate") (hm : X.mg "enumerate" = none) (he : PE X e te) (hz : PE X ez tz)
    (hs : starEach [e] X.env = [(false, eval e X.env)] := by rfl)
    (hc : eval (.Call (.Name "enumerate" p) [e] [⟨some "start", ez, kp⟩] pos) X.env = (do
      let f ← eval (.Name "enumerate" p) X.env
      callWith pos f [] (backTo pos (starEach [e] X.env)) (backToKw pos (keywordEach [⟨some "start", ez, kp⟩] X.env))) := by rfl) :
    PI X (.Tuple elts kk tpos) (.Call (.Name "enumerate" p) [e] [⟨some "start", ez, kp⟩] pos) (iEnumS X.K te tz) := by
  refine ⟨fun pins s σ H R I h => ?_⟩
  rw [hc]
  refine wpAny_bind (ld_blt I hg hm boot_enumerate ?_)
  refine callWith_tyKw ?_ (by rw [hs]; rfl) rfl rfl
  rw [hs]
  refine PySem.Calls.spliced_cons (thn (he.run pins s σ H _ I h) fun u s1 ⟨x, H1, I1, r1, q1⟩ => PySem.Calls.spliced_nil ?_)
  refine kws_cons (thn (hz.run pins s1 σ H1 _ I1 q1) fun zu s2 ⟨y, H2, I2, r2, q2⟩ => kws_nil ?_)
  obtain ⟨a, xs, z, ex, ey, hq, hz0, hz1, q⟩ := q2
  subst ex ey
  cases r1
  obtain ⟨t, rfl⟩ := r2
  obtain ⟨its, rv, p', hzz⟩ := I2.list hq
  show wpAny _ _ (call (.type "enumerate") [.ref a] [(Str.ofString "start", .int z t)]) _ _ s2
  refine enum_begins_start (begins_list a its.toArray) p'.isList hz0 hz1 fun h' hen hit hsz hk => wpAny_pyIter_enum hen ?_
  have I3 : Inv X pins σ H2 { s2 with heap := h' } := I2.kept (t' := s2.toks) hk
  have hal : a < s2.heap.objs.size := by
    obtain ⟨o, e, _⟩ := p'.isList
    exact Heap.lt_size e
  refine ⟨s2.heap.objs.size + 1, [s2.heap.objs.size + 1, s2.heap.objs.size], _, _, H2, rfl, I3, turn_enumS a (s2.heap.objs.size + 1) s2.heap.objs.size z,
    ⟨⟨.none, by simpa using hen⟩, ⟨_, hit, rfl, rfl⟩, Nat.succ_ne_self _, Nat.ne_of_lt hal, Nat.ne_of_lt (Nat.lt_succ_of_lt hal)⟩, fun b hb => ?_, q⟩
  have hle : s2.heap.objs.size ≤ b := by
    rcases List.mem_cons.mp hb with v | v
    · rw [v]; exact Nat.le_add_right _ _
    · rw [List.mem_singleton.mp v]; exact Nat.le_refl _
  exact I2.fpOk hle (I2.hok.fresh hle)
/-- such a loop, by what holds ahead of each turn -/
theorem for_enumS {K : PySem.W.Frag} {a : Addr} {z : Int} {xs : List V} {g : TG} {tb : TS} {D : Ends} {σ : L2.St} {H : Hp} (Pv : Nat → L2.St → Hp → Prop) (h0 : Pv 0 σ H) (hl : ∀ i σ H, i ≤ xs.length → Pv i σ H → SqL K H a xs)
    (hs : ∀ i x σ H T, xs[i]? = some x → Pv i σ H → H T = none → g (.ref T) σ (upd H T (.tup [.int (z + (i : Nat)), x])) fun σ2 H2 => tb { D with nx := Pv (i + 1), ct := Pv (i + 1), bk := D.nx } σ2 H2) (hd : ∀ σ H, Pv xs.length σ H → D.nx σ H) :
    ∃ W : Nat → Nat → L2.St → Hp → Prop, (∃ m, W 0 m σ H) ∧ ∀ i m σ H, W i m σ H →
      ((Itn K a z).stop i H ∧ D.nx σ H) ∨ ((Itn K a z).go i H ∧ ∃ N : L2.St → Hp → Prop, (∀ σ' H', N σ' H' → ∃ m', m' < m ∧ W (i + 1) m' σ' H') ∧ ∀ x H', (Itn K a z).yld i H x H' → g x σ H' fun σ2 H2 => tb { D with nx := N, ct := N, bk := D.nx } σ2 H2) := by
  refine ⟨fun i m σ H => m = xs.length - i ∧ i ≤ xs.length ∧ Pv i σ H, ⟨xs.length, by simp, Nat.zero_le _, h0⟩, ?_⟩
  rintro i m σ H ⟨rfl, hi, p⟩
  have q := hl i σ H hi p
  by_cases hlt : i < xs.length
  · refine .inr ⟨⟨xs, xs[i], q, by simp [hlt]⟩, Pv (i + 1), fun σ' H' p' => ⟨xs.length - (i + 1), by omega, rfl, hlt, p'⟩, ?_⟩
    rintro x H' ⟨T, y, rfl, hT, rfl, hy⟩
    exact hs i y σ H T (hy xs q) p hT
  · have e : i = xs.length := by omega
    subst e
    exact .inl ⟨⟨xs, q, rfl⟩, hd σ H p⟩
/-- the same from nothing on -/
theorem for_enum {K : PySem.W.Frag} {a : Addr} {xs : List V} {g : TG} {tb : TS} {D : Ends} {σ : L2.St} {H : Hp} (Pv : Nat → L2.St → Hp → Prop) (h0 : Pv 0 σ H) (hl : ∀ i σ H, i ≤ xs.length → Pv i σ H → SqL K H a xs)
    (hs : ∀ i x σ H T, xs[i]? = some x → Pv i σ H → H T = none → g (.ref T) σ (upd H T (.tup [.int (i : Nat), x])) fun σ2 H2 => tb { D with nx := Pv (i + 1), ct := Pv (i + 1), bk := D.nx } σ2 H2) (hd : ∀ σ H, Pv xs.length σ H → D.nx σ H) :
    ∃ W : Nat → Nat → L2.St → Hp → Prop, (∃ m, W 0 m σ H) ∧ ∀ i m σ H, W i m σ H →
      ((Ite K a).stop i H ∧ D.nx σ H) ∨ ((Ite K a).go i H ∧ ∃ N : L2.St → Hp → Prop, (∀ σ' H', N σ' H' → ∃ m', m' < m ∧ W (i + 1) m' σ' H') ∧ ∀ x H', (Ite K a).yld i H x H' → g x σ H' fun σ2 H2 => tb { D with nx := N, ct := N, bk := D.nx } σ2 H2) := by
  refine ⟨fun i m σ H => m = xs.length - i ∧ i ≤ xs.length ∧ Pv i σ H, ⟨xs.length, by simp, Nat.zero_le _, h0⟩, ?_⟩
  rintro i m σ H ⟨rfl, hi, p⟩
  have q := hl i σ H hi p
  by_cases hlt : i < xs.length
  · refine .inr ⟨⟨xs, xs[i], q, by simp [hlt]⟩, Pv (i + 1), fun σ' H' p' => ⟨xs.length - (i + 1), by omega, rfl, hlt, p'⟩, ?_⟩
    rintro x H' ⟨T, y, rfl, hT, rfl, hy⟩
    exact hs i y σ H T (hy xs q) p hT
  · have e : i = xs.length := by omega
    subst e
    exact .inl ⟨⟨xs, q, Nat.le_refl _⟩, hd σ H p⟩
end Mx

namespace Mx
open PySem L2
def top (i : Nat) : Stmt := PySem.Challenge.pw_mixserver_k16_whole_loudness_and_softnes.main.body.getD i (.Pass ⟨0, 0, 0, 0⟩)
abbrev s_is_whole : Stmt := top 14
abbrev s_check_soft : Stmt := top 15
abbrev s_check_name : Stmt := top 16
abbrev s_check_pace : Stmt := top 17
abbrev s_check_wait : Stmt := top 18
abbrev s_check_loudness : Stmt := top 19
abbrev s_check_lead : Stmt := top 20
abbrev s_ratio : Stmt := top 23
abbrev s_plus : Stmt := top 24
abbrev s_minus : Stmt := top 25
abbrev s_times : Stmt := top 26
abbrev s_spot : Stmt := top 28
abbrev s_wanted : Stmt := top 29
abbrev s_Line_init : Stmt := inClass (top 32) 0
abbrev s_Line_take : Stmt := inClass (top 32) 1
abbrev s_Line_close : Stmt := inClass (top 32) 2
abbrev s_Line_room : Stmt := inClass (top 32) 3
abbrev s_Line_begun : Stmt := inClass (top 32) 4
abbrev s_Line_wants : Stmt := inClass (top 32) 5
abbrev s_Line_over : Stmt := inClass (top 32) 6
abbrev s_Line_lacks : Stmt := inClass (top 32) 7
abbrev s_Line_ready : Stmt := inClass (top 32) 8
abbrev s_Line_value : Stmt := inClass (top 32) 9
abbrev s_Loudness_init : Stmt := inClass (top 35) 0
abbrev s_Loudness_lead_to : Stmt := inClass (top 35) 1
abbrev s_Loudness_lead_on : Stmt := inClass (top 35) 2
abbrev s_Voice_init : Stmt := inClass (top 41) 0
abbrev s_Voice_give : Stmt := inClass (top 41) 1
abbrev s_Voice_sound : Stmt := inClass (top 41) 2
abbrev s_Voice_rise : Stmt := inClass (top 41) 3
abbrev s_Voice_begin_fall : Stmt := inClass (top 41) 4
abbrev s_Voice_fall : Stmt := inClass (top 41) 5
abbrev s_Mixer_init : Stmt := inClass (top 43) 0
abbrev s_Mixer_add : Stmt := inClass (top 43) 1
abbrev s_Mixer_parcel : Stmt := inClass (top 43) 2
abbrev s_Mixer_end : Stmt := inClass (top 43) 3
abbrev s_Mixer_lead : Stmt := inClass (top 43) 4
abbrev s_Mixer_hush : Stmt := inClass (top 43) 5
abbrev s_Mixer_beat : Stmt := inClass (top 43) 7
abbrev s_Mixer_now : Stmt := inClass (top 43) 8
abbrev s_Mixer_missed : Stmt := inClass (top 43) 9
abbrev s_Mixer_states : Stmt := inClass (top 43) 10
abbrev s_Mixer_state_of : Stmt := inClass (top 43) 11
abbrev s_Mixer_voice_of : Stmt := inClass (top 43) 12
abbrev s_law_taken : Stmt := top 45
abbrev s_law_share : Stmt := top 46
abbrev s_law_plus : Stmt := top 47
abbrev s_law_times : Stmt := top 48
abbrev s_law_number : Stmt := top 49
abbrev s_law_pace : Stmt := top 50
abbrev s_law : Stmt := top 51
end Mx

namespace Mx
open PySem L2
set_option hygiene false in
local macro_rules | `(tactic| walk_at "rd") => `(tactic| try simp only [L2.start, List.map_cons, List.map_nil, List.length_cons, List.length_nil, Nat.reduceAdd, Nat.reduceSub, Nat.reduceLT, Nat.reduceLeDiff, List.replicate_succ, List.replicate_zero, List.append_nil, List.nil_append, List.cons_append, List.set_cons_zero, List.set_cons_succ, List.getElem?_cons_zero, List.getElem?_cons_succ,
  Option.some.injEq, List.cons.injEq, and_true, true_and, and_assoc, reduceCtorEq, L2.V.int.injEq, L2.V.ref.injEq, L2.V.bl.injEq, L2.V.str.injEq, L2.V.ty.injEq, L2.HO.ins.injEq, L2.HO.lst.injEq, L2.HO.tup.injEq, L2.HO.dK.injEq, exists_eq_left', exists_eq_left, exists_eq_right, exists_eq', exists_eq, exists_and_left, exists_and_right, reduceIte, Bool.false_eq_true, Bool.not_true, Bool.not_false,
  L2.tSeq, L2.tIfS, L2.tRet, L2.tRetN, L2.tNext, L2.tAsg, L2.gName, L2.tVar, L2.tC, L2.tCons, L2.tNil, L2.tCB, L2.tOp, L2.tUn, L2.tTup, L2.tLst, L2.tB, L2.tOr, L2.tAnd, L2.tNot, L2.tAndV, L2.tOrV, L2.tNotV, L2.tIf, L2.tTest, L2.tChain, L2.rI, L2.rI0, L2.rU, L2.tDrop, L2.tNever, L2.tCall, L2.tMeth, L2.tMake, L2.rGcd, L2.tFld, L2.sFld, L2.sFldAug, Mx.sFldA, Mx.sFldAugA, L2.rAdd, L2.rSub, L2.rEq, L2.rNe, L2.tDGet, L2.tDIn, L2.tDNotIn, L2.sDPut,
  Mx.isi_int_bool, Mx.isi_int_int, Mx.isi_int_tuple, Mx.isi_int_list, Mx.isi_int_str, Mx.scal_int, Mx.scal_str, Mx.scal_bl, Mx.ofString_inj, Mx.ofString_beq, Mx.lk_cons, Mx.pf_nil, Mx.pf_cons, Mx.sz1, Mx.sz2, List.lookup_nil, String.reduceEq, decide_true, decide_false, decide_eq_true_eq, Int.natAbs_natCast, L2.upd_same, L2.upd_upd, L2.cxOf])
set_option hygiene false in
local macro_rules | `(tactic| walk_at "rds") => `(tactic| try simp only [L2.start, List.map_cons, List.map_nil, List.length_cons, List.length_nil, Nat.reduceAdd, Nat.reduceSub, Nat.reduceLT, Nat.reduceLeDiff, List.replicate_succ, List.replicate_zero, List.append_nil, List.nil_append, List.cons_append, List.set_cons_zero, List.set_cons_succ, List.getElem?_cons_zero, List.getElem?_cons_succ,
  Option.some.injEq, List.cons.injEq, and_true, true_and, and_assoc, reduceCtorEq, L2.V.int.injEq, L2.V.ref.injEq, L2.V.bl.injEq, L2.V.str.injEq, L2.V.ty.injEq, L2.HO.ins.injEq, L2.HO.lst.injEq, L2.HO.tup.injEq, L2.HO.dK.injEq, exists_eq_left', exists_eq_left, exists_eq_right, exists_eq', exists_eq, exists_and_left, exists_and_right, reduceIte, Bool.false_eq_true, Bool.not_true, Bool.not_false,
  L2.tSeq, L2.tIfS, L2.tRet, L2.tRetN, L2.tNext, L2.tAsg, L2.gName, L2.tVar, L2.tC, L2.tCons, L2.tNil, L2.tCB, L2.tOp, L2.tUn, L2.tTup, L2.tLst, L2.tB, L2.tOr, L2.tAnd, L2.tNot, L2.tAndV, L2.tOrV, L2.tNotV, L2.tIf, L2.tTest, L2.tChain, L2.rI, L2.rI0, L2.rU, L2.tDrop, L2.tNever, L2.tCall, L2.tMeth, L2.tMake, L2.rGcd, L2.tFld, L2.sFld, L2.sFldAug, Mx.sFldA, Mx.sFldAugA, L2.rAdd, L2.rSub, L2.rEq, L2.rNe, L2.tDGet, L2.tDIn, L2.tDNotIn, L2.sDPut,
  Mx.isi_int_bool, Mx.isi_int_int, Mx.isi_int_tuple, Mx.isi_int_list, Mx.isi_int_str, Mx.scal_int, Mx.scal_str, Mx.scal_bl, Mx.ofString_inj, Mx.ofString_beq, Mx.lk_cons, Mx.pf_nil, Mx.pf_cons, Mx.sz1, Mx.sz2, List.lookup_nil, String.reduceEq, decide_true, decide_false, decide_eq_true_eq, Int.natAbs_natCast, L2.upd_same, L2.upd_upd, L2.cxOf, *])

/-- the built-in names that the program leaves as they are -/
structure Blt (mg : Str → Option Value) : Prop where
  isi : mg "isinstance" = none
  bool : mg "bool" = none
  int : mg "int" = none
  tuple : mg "tuple" = none
  len : mg "len" = none
  all : mg "all" = none
  any : mg "any" = none
  max : mg "max" = none
  divmod : mg "divmod" = none
  enumerate : mg "enumerate" = none
  sorted : mg "sorted" = none
  list : mg "list" = none
  range : mg "range" = none
  abs : mg "abs" = none
  str : mg "str" = none
  gcd : mg "gcd" = some (.builtin "math.gcd")
section
variable {P : Program} {w : World} {K : PySem.W.Frag} {mg : Str → Option Value} {base : Heap}
/-! ### a name that is a built-in class, as a value -/
section
variable {X : Cx} {e1 e2 : Expr} {t1 t2 : TE} {p pos : Pos}
theorem b_isi {T : String} {x : Str} {q : Pos} (B : Blt X.mg) (h1 : PE X e1 t1) (h : X.mg x = none) (hb : bootBuiltins x = some (.type T)) (hx : x ≠ "__name__" := by decide) (hd : (x == ("__debug__" : Str)) = false := by decide) (hg : Gl X "isinstance" := by rfl) (hg2 : Gl X x := by rfl)
    (he : starEach [e1, .Name x q] X.env = (false, eval e1 X.env) :: starEach [.Name x q] X.env := by rfl)
    (he2 : starEach [.Name x q] X.env = (false, eval (.Name x q) X.env) :: starEach [] X.env := by rfl)
    (hpl : (backTo pos (starEach [.Name x q] X.env)).any (·.1) = false := by rfl) :
    PE X (.Call (.Name "isinstance" p) [e1, .Name x q] [] pos) (tCB (rIsi X.K) (tCons t1 (tCons (tC (.ty T)) tNil))) :=
  pe_callB call_isi hg B.isi PyProof.Rows.boot_isinstance (pa_cons h1 (pa_cons (pe_bltn (v := .ty T) hg2 h hb rfl hx hd) pa_nil he2) he) (he := he) (hpl := hpl)
end

/-! ### is_whole -/
def sp_is_whole : Sp := fun vs H Q _ => ∃ (n lo hi : Int), vs = [.int n, .int lo, .int hi] ∧ Q (.bl (decide (lo ≤ n ∧ n ≤ hi))) H
theorem sc_is_whole : FnScope ["number", "low", "high"] ["number", "low", "high"] (defScope s_is_whole) := ⟨rfl, rfl, rfl, by decide +kernel, rfl, by decide +kernel, by decide +kernel⟩
theorem ok_is_whole {f : Addr} {fd : FuncData} (F : Fun K "is_whole" "is_whole" s_is_whole f fd) (B : Blt mg) : FnOk P w K mg base CX0 1 f fd ["number", "low", "high"] sp_is_whole := by
  refine F.ok sc_is_whole (fun vs H Q E h => ?_) (fun cdv A outer s H vs Q E hr h => ?_)
  · obtain ⟨n, lo, hi, rfl, _⟩ := h
    rfl
  · obtain ⟨n, lo, hi, rfl, k⟩ := h
    refine ⟨_, pss_cons (ps_if (PW.pt (pw_or (pt_val (b_isi B (pv 0) B.bool PyProof.Rows.boot_bool)) (pw_or1 (pt_not (pt_val (b_isi B (pv 0) B.int PyProof.Rows.boot_int))))))
        (pss_one (ps_ret pe_bl)) pss_nil)
      (pss_one (ps_ret (pe_chain op_le op_le (pv 1) (pv 0) (pv 2)))), ?_⟩
    walk_at "rd"
    by_cases h1 : lo ≤ n
    · rw [if_pos h1]
      rw [show (decide (n ≤ hi)) = decide (lo ≤ n ∧ n ≤ hi) from by simp [h1]]
      exact k
    · rw [if_neg (by simpa using h1)]
      rw [show (false) = decide (lo ≤ n ∧ n ≤ hi) from by simp [h1]]
      exact k

/-! ### ratio, plus, times, minus -/
def frac (q : Rat) : List V := [.int q.num, .int (q.den : Int)]
def sp_ratio : Sp := fun vs H Q _ => ∃ (t b : Int), vs = [.int t, .int b] ∧ 0 < b ∧ b.natAbs < 2 ^ 9000 ∧
  ∀ p H', H p = none → Stp [] H H' → H' p = some (.tup (frac (mkRat t b.toNat))) → Q (.ref p) H'
theorem sc_ratio : FnScope ["top", "bottom", "shared"] ["top", "bottom"] (defScope s_ratio) := ⟨rfl, rfl, rfl, by decide +kernel, rfl, by decide +kernel, by decide +kernel⟩
theorem ok_ratio {f : Addr} {fd : FuncData} (F : Fun K "ratio" "ratio" s_ratio f fd) (B : Blt mg) : FnOk P w K mg base CX0 1 f fd ["top", "bottom"] sp_ratio := by
  refine F.ok sc_ratio (fun vs H Q E h => ?_) (fun cdv A outer s H vs Q E hr h => ?_)
  · obtain ⟨t, b, rfl, _⟩ := h
    rfl
  · obtain ⟨t, b', rfl, h0', hb, k⟩ := h
    obtain ⟨b, rfl⟩ : ∃ b : Nat, b' = b := ⟨b'.toNat, by omega⟩
    have h0 : 0 < b := by omega
    rw [Int.natAbs_natCast] at hb
    rw [Int.toNat_natCast] at k
    refine ⟨_, pss_cons (ps_set (i := 2) sc_ratio.nd rfl (Or.inl rfl) (pe_callBfun cr_gcd (by rfl) B.gcd (pa_cons (pv 0) (pa_cons (pv 1) pa_nil))))
      (pss_one (ps_ret (pe_tup (pa_cons (pe_op op_fdivW (pv 0) (pv 2)) (pa_cons (pe_op op_fdivW (pv 1) (pv 2)) pa_nil))))), ?_⟩
    have hgp : 0 < Nat.gcd t.natAbs b := Nat.gcd_pos_of_pos_right _ h0
    have hgd : CDivW t ((Nat.gcd t.natAbs b : Nat) : Int) := wide_div (b := 9000) (by omega) (by rw [Int.natAbs_natCast]; exact Nat.lt_of_le_of_lt (Nat.gcd_le_right _ h0) hb) (by decide) (by decide)
    walk_at "rd"
    refine ⟨hgd, ⟨hgd.1, hgd.2⟩, fun p hp => k p _ hp (Stp.new hp) ?_⟩
    unfold frac
    rw [mk_num t b h0, mk_den t b h0]
    exact upd_same
/-- of two fractions a third: a new tuple -/
def sp_two (g : Rat → Rat → Rat) (K : PySem.W.Frag) : Sp := fun vs H Q _ => ∃ (a b : Addr) (q r : Rat) (n m : Nat), vs = [.ref a, .ref b] ∧ TupAt K H a (frac q) ∧ TupAt K H b (frac r) ∧ Rb n q ∧ Rb m r ∧ n + m < 9000 ∧ 0 < n ∧ 0 < m ∧
  ∀ p H', H p = none → Stp [] H H' → H' p = some (.tup (frac (g q r))) → Q (.ref p) H'
theorem at0 {x : V} {r : List V} : atI (x :: r) 0 = some x := by
  show ((if (0 : Int) ≤ 0 then (if (0 : Int) < ((r.length + 1 : Nat) : Int) then some (0 : Int).toNat else none) else _ : Option Nat)).bind _ = _
  rw [if_pos (by decide), if_pos (by omega)]
  rfl
theorem at1 {x y : V} {r : List V} : atI (x :: y :: r) 1 = some y := by
  show ((if (0 : Int) ≤ 1 then (if (1 : Int) < ((r.length + 1 + 1 : Nat) : Int) then some (1 : Int).toNat else none) else _ : Option Nat)).bind _ = _
  rw [if_pos (by decide), if_pos (by omega)]
  rfl
theorem ixT_0 {H : Hp} {a : Addr} {x : V} {r : List V} {Q : VK} (h : TupAt K H a (x :: r)) (q : Q x H) : rIxT K (.ref a) (.int 0) H Q := ⟨a, _, 0, x, rfl, rfl, h.sq, at0, q⟩
theorem ixT_1 {H : Hp} {a : Addr} {x y : V} {r : List V} {Q : VK} (h : TupAt K H a (x :: y :: r)) (q : Q y H) : rIxT K (.ref a) (.int 1) H Q := ⟨a, _, 1, y, rfl, rfl, h.sq, at1, q⟩
theorem sc_plus : FnScope ["one", "other"] ["one", "other"] (defScope s_plus) := ⟨rfl, rfl, rfl, by decide +kernel, rfl, by decide +kernel, by decide +kernel⟩
theorem ok_plus {f : Addr} {fd : FuncData} (F : Fun K "plus" "plus" s_plus f fd) (G : OwnF P w K mg base "ratio" 1 ["top", "bottom"] sp_ratio) : FnOk P w K mg base CX0 2 f fd ["one", "other"] (sp_two (· + ·) K) := by
  refine F.ok sc_plus (fun vs H Q E h => ?_) (fun cdv A outer s H vs Q E hr h => ?_)
  · obtain ⟨a, b, q, r, n, m, rfl, _⟩ := h
    rfl
  · obtain ⟨a, b, q, r, n, m, rfl, ha, hb, hn, hm, hl, hn0, hm0, k⟩ := h
    refine ⟨_, pss_one (ps_ret (p_call G hr (pa_cons (pe_op op_add (pe_op op_mulW (pe_ix ix_tup (pv 0) pe_int (fun _ _ => rfl)) (pe_ix ix_tup (pv 1) pe_int (fun _ _ => rfl))) (pe_op op_mulW (pe_ix ix_tup (pv 1) pe_int (fun _ _ => rfl)) (pe_ix ix_tup (pv 0) pe_int (fun _ _ => rfl))))
      (pa_cons (pe_op op_mulW (pe_ix ix_tup (pv 0) pe_int (fun _ _ => rfl)) (pe_ix ix_tup (pv 1) pe_int (fun _ _ => rfl))) pa_nil)))), ?_⟩
    walk_at "rd"
    have e1 : 2 ^ n * 2 ^ m = 2 ^ (n + m) := (Nat.pow_add 2 n m).symm
    refine ixT_0 ha (ixT_1 hb ⟨_, rfl, _, rfl, wide_mul hn.num (by simpa using hm.den) hn0 hm0 (by omega), ixT_0 hb (ixT_1 ha ⟨_, rfl, _, rfl, wide_mul hm.num (by simpa using hn.den) hm0 hn0 (by omega), ixT_1 ha (ixT_1 hb ⟨_, rfl, _, rfl, wide_mul (by simpa using hn.den) (by simpa using hm.den) hn0 hm0 (by omega), ?_⟩)⟩)⟩)
    have hd : (q.den : Int) * (r.den : Int) = ((q.den * r.den : Nat) : Int) := by simp
    refine ⟨_, _, rfl, ?_, ?_, fun p H' hp hs hl' => k p H' hp hs ?_⟩
    · rw [hd]
      have := Nat.mul_pos q.den_pos r.den_pos
      omega
    · rw [hd, Int.natAbs_natCast]
      exact Nat.lt_of_lt_of_le (Nat.mul_lt_mul'' hn.den hm.den) (by rw [e1]; exact Nat.pow_le_pow_right (by decide) (by omega))
    · rw [hd, Int.toNat_natCast, add_mk] at hl'
      exact hl'
theorem sc_times : FnScope ["one", "other"] ["one", "other"] (defScope s_times) := ⟨rfl, rfl, rfl, by decide +kernel, rfl, by decide +kernel, by decide +kernel⟩
theorem ok_times {f : Addr} {fd : FuncData} (F : Fun K "times" "times" s_times f fd) (G : OwnF P w K mg base "ratio" 1 ["top", "bottom"] sp_ratio) : FnOk P w K mg base CX0 2 f fd ["one", "other"] (sp_two (· * ·) K) := by
  refine F.ok sc_times (fun vs H Q E h => ?_) (fun cdv A outer s H vs Q E hr h => ?_)
  · obtain ⟨a, b, q, r, n, m, rfl, _⟩ := h
    rfl
  · obtain ⟨a, b, q, r, n, m, rfl, ha, hb, hn, hm, hl, hn0, hm0, k⟩ := h
    refine ⟨_, pss_one (ps_ret (p_call G hr (pa_cons (pe_op op_mulW (pe_ix ix_tup (pv 0) pe_int (fun _ _ => rfl)) (pe_ix ix_tup (pv 1) pe_int (fun _ _ => rfl)))
      (pa_cons (pe_op op_mulW (pe_ix ix_tup (pv 0) pe_int (fun _ _ => rfl)) (pe_ix ix_tup (pv 1) pe_int (fun _ _ => rfl))) pa_nil)))), ?_⟩
    walk_at "rd"
    have e1 : 2 ^ n * 2 ^ m = 2 ^ (n + m) := (Nat.pow_add 2 n m).symm
    refine ixT_0 ha (ixT_0 hb ⟨_, rfl, _, rfl, wide_mul hn.num hm.num hn0 hm0 (by omega), ixT_1 ha (ixT_1 hb ⟨_, rfl, _, rfl, wide_mul (by simpa using hn.den) (by simpa using hm.den) hn0 hm0 (by omega), ?_⟩)⟩)
    have hd : (q.den : Int) * (r.den : Int) = ((q.den * r.den : Nat) : Int) := by simp
    refine ⟨_, _, rfl, ?_, ?_, fun p H' hp hs hl' => k p H' hp hs ?_⟩
    · rw [hd]
      have := Nat.mul_pos q.den_pos r.den_pos
      omega
    · rw [hd, Int.natAbs_natCast]
      exact Nat.lt_of_lt_of_le (Nat.mul_lt_mul'' hn.den hm.den) (by rw [e1]; exact Nat.pow_le_pow_right (by decide) (by omega))
    · rw [hd, Int.toNat_natCast, mul_mk] at hl'
      exact hl'
end
end Mx

namespace Mx
open PySem L2
set_option hygiene false in
local macro_rules | `(tactic| walk_at "rd") => `(tactic| try simp only [L2.start, List.map_cons, List.map_nil, List.length_cons, List.length_nil, Nat.reduceAdd, Nat.reduceSub, Nat.reduceLT, Nat.reduceLeDiff, List.replicate_succ, List.replicate_zero, List.append_nil, List.nil_append, List.cons_append, List.set_cons_zero, List.set_cons_succ, List.getElem?_cons_zero, List.getElem?_cons_succ,
  Option.some.injEq, List.cons.injEq, and_true, true_and, and_assoc, reduceCtorEq, L2.V.int.injEq, L2.V.ref.injEq, L2.V.bl.injEq, L2.V.str.injEq, L2.V.ty.injEq, L2.HO.ins.injEq, L2.HO.lst.injEq, L2.HO.tup.injEq, L2.HO.dK.injEq, exists_eq_left', exists_eq_left, exists_eq_right, exists_eq', exists_eq, exists_and_left, exists_and_right, reduceIte, Bool.false_eq_true, Bool.not_true, Bool.not_false,
  L2.tSeq, L2.tIfS, L2.tRet, L2.tRetN, L2.tNext, L2.tAsg, L2.gName, L2.tVar, L2.tC, L2.tCons, L2.tNil, L2.tCB, L2.tOp, L2.tUn, L2.tTup, L2.tLst, L2.tB, L2.tOr, L2.tAnd, L2.tNot, L2.tAndV, L2.tOrV, L2.tNotV, L2.tIf, L2.tTest, L2.tChain, L2.rI, L2.rI0, L2.rU, L2.tDrop, L2.tNever, L2.tCall, L2.tMeth, L2.tMake, L2.rGcd, L2.tFld, L2.sFld, L2.sFldAug, Mx.sFldA, Mx.sFldAugA, L2.rAdd, L2.rSub, L2.rEq, L2.rNe, L2.tDGet, L2.tDIn, L2.tDNotIn, L2.sDPut,
  Mx.isi_int_bool, Mx.isi_int_int, Mx.isi_int_tuple, Mx.isi_int_list, Mx.isi_int_str, Mx.scal_int, Mx.scal_str, Mx.scal_bl, Mx.ofString_inj, Mx.ofString_beq, Mx.lk_cons, Mx.pf_nil, Mx.pf_cons, Mx.sz1, Mx.sz2, List.lookup_nil, String.reduceEq, decide_true, decide_false, decide_eq_true_eq, Int.natAbs_natCast, L2.upd_same, L2.upd_upd, L2.cxOf, L2.gCons, L2.gNil])
set_option hygiene false in
local macro_rules | `(tactic| walk_at "rds") => `(tactic| try simp only [L2.start, List.map_cons, List.map_nil, List.length_cons, List.length_nil, Nat.reduceAdd, Nat.reduceSub, Nat.reduceLT, Nat.reduceLeDiff, List.replicate_succ, List.replicate_zero, List.append_nil, List.nil_append, List.cons_append, List.set_cons_zero, List.set_cons_succ, List.getElem?_cons_zero, List.getElem?_cons_succ,
  Option.some.injEq, List.cons.injEq, and_true, true_and, and_assoc, reduceCtorEq, L2.V.int.injEq, L2.V.ref.injEq, L2.V.bl.injEq, L2.V.str.injEq, L2.V.ty.injEq, L2.HO.ins.injEq, L2.HO.lst.injEq, L2.HO.tup.injEq, L2.HO.dK.injEq, exists_eq_left', exists_eq_left, exists_eq_right, exists_eq', exists_eq, exists_and_left, exists_and_right, reduceIte, Bool.false_eq_true, Bool.not_true, Bool.not_false,
  L2.tSeq, L2.tIfS, L2.tRet, L2.tRetN, L2.tNext, L2.tAsg, L2.gName, L2.tVar, L2.tC, L2.tCons, L2.tNil, L2.tCB, L2.tOp, L2.tUn, L2.tTup, L2.tLst, L2.tB, L2.tOr, L2.tAnd, L2.tNot, L2.tAndV, L2.tOrV, L2.tNotV, L2.tIf, L2.tTest, L2.tChain, L2.rI, L2.rI0, L2.rU, L2.tDrop, L2.tNever, L2.tCall, L2.tMeth, L2.tMake, L2.rGcd, L2.tFld, L2.sFld, L2.sFldAug, Mx.sFldA, Mx.sFldAugA, L2.rAdd, L2.rSub, L2.rEq, L2.rNe, L2.tDGet, L2.tDIn, L2.tDNotIn, L2.sDPut,
  Mx.isi_int_bool, Mx.isi_int_int, Mx.isi_int_tuple, Mx.isi_int_list, Mx.isi_int_str, Mx.scal_int, Mx.scal_str, Mx.scal_bl, Mx.ofString_inj, Mx.ofString_beq, Mx.lk_cons, Mx.pf_nil, Mx.pf_cons, Mx.sz1, Mx.sz2, List.lookup_nil, String.reduceEq, decide_true, decide_false, decide_eq_true_eq, Int.natAbs_natCast, L2.upd_same, L2.upd_upd, L2.cxOf, L2.gCons, L2.gNil, *])

section
variable {P : Program} {w : World} {K : PySem.W.Frag} {mg : Str → Option Value} {base : Heap}
def lowN (n pn pb : Int) : Int := n * pn / pb
def restN (n pn pb : Int) : Int := n * pn % pb
def wantN (n pn pb : Int) : List Int := if restN n pn pb = 0 then [lowN n pn pb] else [lowN n pn pb, lowN n pn pb + 1]
def lastN (n pn pb : Int) : Int := if restN n pn pb = 0 then lowN n pn pb else lowN n pn pb + 1
theorem at_last {n pn pb : Int} : atI ((wantN n pn pb).map V.int) (-1) = some (.int (lastN n pn pb)) := by
  unfold wantN lastN
  split <;> rfl
def madeN (i pn pb : Int) : Int := (i * pb + pn - 1) / pn
def endN (many L : Int) : Int := (L / many + 1) * many - 1
def gapN (pn pb many p : Int) : Int := madeN (endN many (lastN p pn pb)) pn pb - p
def sp_spot : Sp := fun vs H Q _ => ∃ (tp : Addr) (pn pb n : Int), vs = [.ref tp, .int n] ∧ H tp = some (.tup [.int pn, .int pb]) ∧ (1 ≤ pn ∧ pn ≤ 8) ∧ (1 ≤ pb ∧ pb ≤ 8) ∧ ∀ p H', H p = none → Stp [] H H' → H' p = some (.tup [.int (lowN n pn pb), .int (restN n pn pb)]) → Q (.ref p) H'
theorem sc_spot : FnScope ["pace", "passed", "numbers", "beats"] ["pace", "passed"] (defScope s_spot) := ⟨rfl, rfl, rfl, by decide +kernel, rfl, by decide +kernel, by decide +kernel⟩
theorem ok_spot {f : Addr} {fd : FuncData} (F : Fun K "spot" "spot" s_spot f fd) (B : Blt mg) : FnOk P w K mg base CX0 1 f fd ["pace", "passed"] sp_spot := by
  refine F.ok sc_spot (fun vs H Q E h => ?_) (fun cdv A outer s H vs Q E hr h => ?_)
  · obtain ⟨tp, pn, pb, n, rfl, _⟩ := h
    rfl
  · obtain ⟨tp, pn, pb, n, rfl, htp, hpn, hpb, k⟩ := h
    refine ⟨_, pss_cons (ps_asg (pv 0) (pg_tup rfl (pgs_cons (pg_name (i := 2) sc_spot.nd rfl (.inl rfl)) (pgs_cons (pg_name (i := 3) sc_spot.nd rfl (.inl rfl)) pgs_nil))))
      (pss_one (ps_ret (pe_callB call_divmod (by rfl) B.divmod (by decide +kernel) (pa_cons (pe_op op_mul (pv 1) (pv 2)) (pa_cons (pv 3) pa_nil))))), ?_⟩
    refine ⟨_, rfl, tp, _, rfl, .inl (.inl htp), rfl, ?_⟩
    walk_at "rd"
    exact ⟨.inr ⟨by omega, by omega⟩, ⟨by omega, by omega⟩, fun p hp => k p _ hp (Stp.new hp) upd_same⟩
def sp_wanted : Sp := fun vs H Q _ => ∃ (tp : Addr) (pn pb n : Int), vs = [.ref tp, .int n] ∧ H tp = some (.tup [.int pn, .int pb]) ∧ (1 ≤ pn ∧ pn ≤ 8) ∧ (1 ≤ pb ∧ pb ≤ 8) ∧ ∀ p H', H p = none → Stp [] H H' → H' p = some (.lst ((wantN n pn pb).map V.int)) → Q (.ref p) H'
theorem sc_wanted : FnScope ["pace", "passed", "low", "rest"] ["pace", "passed"] (defScope s_wanted) := ⟨rfl, rfl, rfl, by decide +kernel, rfl, by decide +kernel, by decide +kernel⟩
theorem ok_wanted {f : Addr} {fd : FuncData} (F : Fun K "wanted" "wanted" s_wanted f fd) (G : OwnF P w K mg base "spot" 1 ["pace", "passed"] sp_spot) : FnOk P w K mg base CX0 2 f fd ["pace", "passed"] sp_wanted := by
  refine F.ok sc_wanted (fun vs H Q E h => ?_) (fun cdv A outer s H vs Q E hr h => ?_)
  · obtain ⟨tp, pn, pb, n, rfl, _⟩ := h
    rfl
  · obtain ⟨tp, pn, pb, n, rfl, htp, hpn, hpb, k⟩ := h
    refine ⟨_, pss_cons (ps_asg (p_call G hr (pa_cons (pv 0) (pa_cons (pv 1) pa_nil))) (pg_tup rfl (pgs_cons (pg_name (i := 2) sc_wanted.nd rfl (.inl rfl)) (pgs_cons (pg_name (i := 3) sc_wanted.nd rfl (.inl rfl)) pgs_nil))))
      (pss_one (ps_ret (pe_ifExp (pt_cmpR op_eq (pv 3) pe_int (nomark _)) (pe_lst (pa_cons (pv 2) pa_nil)) (pe_lst (pa_cons (pv 2) (pa_cons (pe_op op_add (pv 2) pe_int) pa_nil)))))), ?_⟩
    refine ⟨_, rfl, _, rfl, tp, pn, pb, n, rfl, htp, hpn, hpb, fun p H1 hp hs hl => ⟨p, _, rfl, .inl (.inl hl), rfl, ?_⟩⟩
    walk_at "rd"
    unfold wantN at k
    by_cases e : restN n pn pb = 0
    · rw [if_pos e] at k ⊢
      intro q hq
      exact k q _ (hs.free hq (by simp)) (hs.trans (Stp.new hq)) upd_same
    · rw [if_neg e] at k ⊢
      intro q hq
      exact k q _ (hs.free hq (by simp)) (hs.trans (Stp.new hq)) upd_same
end
end Mx

namespace Mx
open PySem L2
/-! ### a voice's numbers: what a Line holds -/
structure LineS where
  pn : Int
  pb : Int
  beg : Int
  came : List (Int × Int)
  reach : Int
  many : Option Int
def optV : Option Int → V
  | none => .non
  | some n => .int n
def cam (c : List (Int × Int)) : List (Key × V) := c.map fun p => (Sum.inl p.1, V.int p.2)
def look (c : List (Int × Int)) (i : Int) : Option Int := (c.find? fun p => decide (p.1 = i)).map (·.2)
theorem cam_get (c : List (Int × Int)) (i : Int) : valV (cam c) (Sum.inl i : Key) = (look c i).map V.int := by
  unfold valV look cam
  induction c with
  | nil => rfl
  | cons p r ih =>
    by_cases h : p.1 = i
    · subst h
      simp
    · rw [List.map_cons, List.find?_cons_of_neg (by simpa using h), List.find?_cons_of_neg (by simpa using h)]
      exact ih
def put1 (c : List (Int × Int)) (i n : Int) : List (Int × Int) := if (look c i).isSome then c else c ++ [(i, n)]
def putAll : List (Int × Int) → Int → List Int → List (Int × Int)
  | c, _, [] => c
  | c, i, n :: r => putAll (put1 c i n) (i + 1) r
theorem putAll_snoc : ∀ (r : List Int) (c : List (Int × Int)) (i n : Int), putAll c i (r ++ [n]) = put1 (putAll c i r) (i + (r.length : Int)) n
  | [], c, i, n => by
    show put1 c i n = put1 c (i + ((0 : Nat) : Int)) n
    rw [show i + ((0 : Nat) : Int) = i by omega]
  | m :: r, c, i, n => by
    show putAll (put1 c i m) (i + 1) (r ++ [n]) = put1 (putAll (put1 c i m) (i + 1) r) (i + ((r.length + 1 : Nat) : Int)) n
    rw [putAll_snoc r]
    rw [show i + 1 + (r.length : Int) = i + ((r.length + 1 : Nat) : Int) by omega]
theorem put1_len (c : List (Int × Int)) (i n : Int) : (put1 c i n).length ≤ c.length + 1 := by
  unfold put1
  split
  · omega
  · rw [List.length_append]
    exact Nat.le_refl _
theorem putAll_len : ∀ (r : List Int) (c : List (Int × Int)) (i : Int), (putAll c i r).length ≤ c.length + r.length
  | [], c, i => Nat.le_refl _
  | m :: r, c, i => by
    have h1 := putAll_len r (put1 c i m) (i + 1)
    have h2 := put1_len c i m
    show (putAll (put1 c i m) (i + 1) r).length ≤ c.length + (r.length + 1)
    omega
theorem cam_put {c : List (Int × Int)} {i n : Int} (h : look c i = none) : putK (cam c) (Sum.inl i : Key) (V.int n) = cam (put1 c i n) := by
  have e : valV (cam c) (Sum.inl i : Key) = none := by rw [cam_get, h]; rfl
  rw [putK_new _ e]
  unfold put1
  rw [h]
  simp [cam]
def LineS.low (s : LineS) (t : Int) : Int := (t - s.beg) * s.pn / s.pb
def LineS.rest (s : LineS) (t : Int) : Int := (t - s.beg) * s.pn % s.pb
def LineS.want (s : LineS) (t : Int) : List Int := if s.rest t = 0 then [s.low t] else [s.low t, s.low t + 1]
def LineS.last (s : LineS) (t : Int) : Int := if s.rest t = 0 then s.low t else s.low t + 1
def LineS.over (s : LineS) (t : Int) : Bool := match s.many with
  | none => false
  | some m => decide (m ≤ s.last t)
def LineS.has (s : LineS) (i : Int) : Bool := (look s.came i).isSome
def LineS.begun (s : LineS) (t : Int) : Bool := decide (s.beg ≤ t)
def LineS.lacks (s : LineS) (t : Int) : Bool := s.begun t && !s.over t && (s.want t).any fun i => !s.has i
def LineS.ready (s : LineS) (t : Int) : Bool := s.begun t && !s.over t && !s.lacks t
def LineS.at (s : LineS) (i : Int) : Int := (look s.came i).getD 0
def LineS.value (s : LineS) (t : Int) : Rat := if s.rest t = 0 then mkRat (s.at (s.low t)) 1 else mkRat (s.at (s.low t) * (s.pb - s.rest t) + s.at (s.low t + 1) * s.rest t) s.pb.toNat
def LineS.room (s : LineS) : Int := s.many.getD 1000
def LineS.take (s : LineS) (i : Int) (ns : List Int) : LineS := { s with came := putAll s.came i ns, reach := max s.reach (i + (ns.length : Int)) }
structure LineOk (s : LineS) : Prop where
  pn0 : 1 ≤ s.pn
  pn1 : s.pn ≤ 8
  pb0 : 1 ≤ s.pb
  pb1 : s.pb ≤ 8
  cm : ∀ p ∈ s.came, -999 ≤ p.2 ∧ p.2 ≤ 999
  len : s.came.length ≤ 100000
/-- its attributes, in the order of its making -/
def fsL (tp c : Addr) (s : LineS) : List (Str × V) := [("pace", .ref tp), ("begin", .int s.beg), ("came", .ref c), ("reach", .int s.reach), ("many", optV s.many)]
structure LineAt (C : Addr) (H : Hp) (l c : Addr) (s : LineS) : Prop where
  ob : ∃ dx tp, H l = some (.ins C dx (fsL tp c s)) ∧ H tp = some (.tup [.int s.pn, .int s.pb])
  dc : H c = some (.dK (cam s.came))
theorem LineAt.ne {C : Addr} {H : Hp} {l c : Addr} {s : LineS} (h : LineAt C H l c s) : l ≠ c := by
  obtain ⟨dx, tp, h1, _⟩ := h.ob
  exact ne_of h1 h.dc (fun z => nomatch z)
theorem LineAt.st {C : Addr} {F : List Addr} {H H' : Hp} {l c : Addr} {s : LineS} (h : LineAt C H l c s) (k : Stp F H H') (n1 : l ∉ F) (n2 : c ∉ F) : LineAt C H' l c s := by
  obtain ⟨dx, tp, h1, ht⟩ := h.ob
  exact ⟨⟨dx, tp, k.keep _ _ h1 n1, k.tup _ _ ht⟩, k.keep _ _ h.dc n2⟩
theorem LineAt.st0 {C : Addr} {H H' : Hp} {l c : Addr} {s : LineS} (h : LineAt C H l c s) (k : Stp [] H H') : LineAt C H' l c s := h.st k (by simp) (by simp)
/-- what the class is as the top has made it -/
structure TL (K : PySem.W.Frag) (C : Addr) : Prop where
  cl : Cls K C
  a1 : NoAttr K C "pace"
  a3 : NoAttr K C "begin"
  a4 : NoAttr K C "came"
  a5 : NoAttr K C "reach"
  a6 : NoAttr K C "many"
theorem s1000 {n : Nat} (h : n < 1000) : (n < 1000) = True := eq_true h
set_option hygiene false in
local macro_rules | `(tactic| walk_at "rd") => `(tactic| try simp only [L2.start, List.map_cons, List.map_nil, List.length_cons, List.length_nil, Nat.reduceAdd, Nat.reduceSub, Nat.reduceLT, Nat.reduceLeDiff, List.replicate_succ, List.replicate_zero, List.append_nil, List.nil_append, List.cons_append, List.set_cons_zero, List.set_cons_succ, List.getElem?_cons_zero, List.getElem?_cons_succ,
  Option.some.injEq, List.cons.injEq, and_true, true_and, and_assoc, reduceCtorEq, L2.V.int.injEq, L2.V.ref.injEq, L2.V.bl.injEq, L2.V.str.injEq, L2.V.ty.injEq, L2.HO.ins.injEq, L2.HO.lst.injEq, L2.HO.tup.injEq, L2.HO.dK.injEq, exists_eq_left', exists_eq_left, exists_eq_right, exists_eq', exists_eq, exists_and_left, exists_and_right, reduceIte, Bool.false_eq_true, Bool.not_true, Bool.not_false,
  L2.tSeq, L2.tIfS, L2.tRet, L2.tRetN, L2.tNext, L2.tAsg, L2.gName, L2.tVar, L2.tC, L2.tCons, L2.tNil, L2.tCB, L2.tOp, L2.tUn, L2.tTup, L2.tLst, L2.tB, L2.tOr, L2.tAnd, L2.tNot, L2.tAndV, L2.tOrV, L2.tNotV, L2.tIf, L2.tTest, L2.tChain, L2.rI, L2.rI0, L2.rU, L2.tDrop, L2.tNever, L2.tCall, L2.tMeth, L2.tMake, L2.rGcd, L2.tFld, L2.sFld, L2.sFldAug, Mx.sFldA, Mx.sFldAugA, L2.rAdd, L2.rSub, L2.rEq, L2.rNe, L2.tDGet, L2.tDIn, L2.tDNotIn, L2.sDPut,
  Mx.isi_int_bool, Mx.isi_int_int, Mx.isi_int_tuple, Mx.isi_int_list, Mx.isi_int_str, Mx.scal_int, Mx.scal_str, Mx.scal_bl, Mx.ofString_inj, Mx.ofString_beq, Mx.lk_cons, Mx.pf_nil, Mx.pf_cons, Mx.sz1, Mx.sz2, List.lookup_nil, String.reduceEq, decide_true, decide_false, decide_eq_true_eq, Int.natAbs_natCast, L2.upd_same, L2.upd_upd, L2.cxOf, Mx.fsL, Mx.gFld, L2.gCons, L2.gNil, L2.tDNewK, Mx.optV])
set_option hygiene false in
local macro_rules | `(tactic| walk_at "rds") => `(tactic| try simp only [L2.start, List.map_cons, List.map_nil, List.length_cons, List.length_nil, Nat.reduceAdd, Nat.reduceSub, Nat.reduceLT, Nat.reduceLeDiff, List.replicate_succ, List.replicate_zero, List.append_nil, List.nil_append, List.cons_append, List.set_cons_zero, List.set_cons_succ, List.getElem?_cons_zero, List.getElem?_cons_succ,
  Option.some.injEq, List.cons.injEq, and_true, true_and, and_assoc, reduceCtorEq, L2.V.int.injEq, L2.V.ref.injEq, L2.V.bl.injEq, L2.V.str.injEq, L2.V.ty.injEq, L2.HO.ins.injEq, L2.HO.lst.injEq, L2.HO.tup.injEq, L2.HO.dK.injEq, exists_eq_left', exists_eq_left, exists_eq_right, exists_eq', exists_eq, exists_and_left, exists_and_right, reduceIte, Bool.false_eq_true, Bool.not_true, Bool.not_false,
  L2.tSeq, L2.tIfS, L2.tRet, L2.tRetN, L2.tNext, L2.tAsg, L2.gName, L2.tVar, L2.tC, L2.tCons, L2.tNil, L2.tCB, L2.tOp, L2.tUn, L2.tTup, L2.tLst, L2.tB, L2.tOr, L2.tAnd, L2.tNot, L2.tAndV, L2.tOrV, L2.tNotV, L2.tIf, L2.tTest, L2.tChain, L2.rI, L2.rI0, L2.rU, L2.tDrop, L2.tNever, L2.tCall, L2.tMeth, L2.tMake, L2.rGcd, L2.tFld, L2.sFld, L2.sFldAug, Mx.sFldA, Mx.sFldAugA, L2.rAdd, L2.rSub, L2.rEq, L2.rNe, L2.tDGet, L2.tDIn, L2.tDNotIn, L2.sDPut,
  Mx.isi_int_bool, Mx.isi_int_int, Mx.isi_int_tuple, Mx.isi_int_list, Mx.isi_int_str, Mx.scal_int, Mx.scal_str, Mx.scal_bl, Mx.ofString_inj, Mx.ofString_beq, Mx.lk_cons, Mx.pf_nil, Mx.pf_cons, Mx.sz1, Mx.sz2, List.lookup_nil, String.reduceEq, decide_true, decide_false, decide_eq_true_eq, Int.natAbs_natCast, L2.upd_same, L2.upd_upd, L2.cxOf, Mx.fsL, Mx.gFld, L2.gCons, L2.gNil, L2.tDNewK, Mx.optV, *])

section
variable {P : Program} {w : World} {K : PySem.W.Frag} {mg : Str → Option Value} {base : Heap} {C : Addr}

def sp_Line_init (K : PySem.W.Frag) (C : Addr) : Sp := fun vs H Q _ => ∃ (l dx t : Addr) (pn pb b : Int), vs = [.ref l, .ref t, .int b] ∧ H l = some (.ins C dx []) ∧ H t = some (.tup [.int pn, .int pb]) ∧
  ∀ c H', H c = none → LineAt C H' l c ⟨pn, pb, b, [], 0, none⟩ → Stp [l] H H' → Q .non H'
theorem sc_Line_init : FnScope ["self", "pace", "begin"] ["self", "pace", "begin"] (defScope s_Line_init) := ⟨rfl, rfl, rfl, by decide +kernel, rfl, by decide +kernel, by decide +kernel⟩
theorem ok_Line_init {f : Addr} {fd : FuncData} (F : Fun K "__init__" "Line.__init__" s_Line_init f fd) (T : TL K C) : FnOk P w K mg base CX0 1 f fd ["self", "pace", "begin"] (sp_Line_init K C) := by
  refine F.ok sc_Line_init (fun vs H Q E h => ?_) (fun cdv A outer s H vs Q E hr h => ?_)
  · obtain ⟨l, dx, t, pn, pb, b, rfl, _⟩ := h
    rfl
  · obtain ⟨l, dx, t, pn, pb, b, rfl, hl, ht, k⟩ := h
    refine ⟨_, pss_cons (ps_fldA (pv 0) (pv 1) rfl)
      (pss_cons (ps_fldA (pv 0) (pv 2) rfl) (pss_cons (ps_fldA (pv 0) pe_dnewK rfl) (pss_cons (ps_fldA (pv 0) pe_int rfl) (pss_one (ps_fldA (pv 0) pe_non rfl))))), ?_⟩
    obtain ⟨cl, a1, a3, a4, a5, a6⟩ := T
    have htl : t ≠ l := ne_of ht hl (fun z => nomatch z)
    walk_at "rds"
    intro H1 g1 s1
    walk_at "rds"
    intro H2 g2 s2
    walk_at "rds"
    intro c hc
    have s3 := Stp.new (o := .dK []) hc
    have e3 : upd H2 c (.dK []) c = some (.dK []) := upd_same
    have g3 := s3.keep _ _ g2 (by simp)
    generalize upd H2 c (.dK []) = H3 at *
    have hcl : l ≠ c := ne_of_none g2 hc
    walk_at "rds"
    intro H4 g4 s4
    walk_at "rds"
    intro H5 g5 s5
    walk_at "rds"
    intro H6 g6 s6
    have hc0 : H c = none := s1.free (s2.free hc (by simpa using hcl.symm)) (by simpa using hcl.symm)
    have t6 : Stp [l] H H6 := (s1.trans (s2.trans (s3.trans (s4.trans (s5.trans s6))))).sub (by simp)
    exact k c H6 hc0 ⟨⟨dx, t, g6, t6.tup _ _ ht⟩, s6.keep _ _ (s5.keep _ _ (s4.keep _ _ e3 (by simpa using hcl.symm)) (by simpa using hcl.symm)) (by simpa using hcl.symm)⟩ t6

def sp_Line_room (C : Addr) : Sp := fun vs H Q _ => ∃ (l c : Addr) (s : LineS), vs = [.ref l] ∧ LineAt C H l c s ∧ Q (.int s.room) H
theorem sc_Line_room : FnScope ["self"] ["self"] (defScope s_Line_room) := ⟨rfl, rfl, rfl, by decide +kernel, rfl, by decide +kernel, by decide +kernel⟩
theorem ok_Line_room {f : Addr} {fd : FuncData} (F : Fun K "room" "Line.room" s_Line_room f fd) (T : TL K C) {tm : Tok} (hM : mg "MOST" = some (.int 1000 tm)) : FnOk P w K mg base CX0 1 f fd ["self"] (sp_Line_room C) := by
  refine F.ok sc_Line_room (fun vs H Q E h => ?_) (fun cdv A outer s H vs Q E hr h => ?_)
  · obtain ⟨l, c, s, rfl, _⟩ := h
    rfl
  · obtain ⟨l, c, s, rfl, hL, k⟩ := h
    refine ⟨_, pss_one (ps_ret (pe_ifExp (pt_cmpR op_isN (pe_fld (pv 0) rfl) pe_non (nomark _)) (pe_glob (v := .int 1000) (by rfl) hM ⟨_, rfl⟩) (pe_fld (pv 0) rfl))), ?_⟩
    obtain ⟨cl, a1, a3, a4, a5, a6⟩ := T
    obtain ⟨dx, tp, h1, htp⟩ := hL.ob
    walk_at "rds"
    unfold LineS.room at k
    cases e : s.many with
    | none =>
      rw [e] at k
      walk_at "rds"
      exact k
    | some m =>
      rw [e] at k
      walk_at "rds"
      exact k

def sp_Line_begun (C : Addr) : Sp := fun vs H Q _ => ∃ (l c : Addr) (s : LineS) (t : Int), vs = [.ref l, .int t] ∧ LineAt C H l c s ∧ Q (.bl (s.begun t)) H
theorem sc_Line_begun : FnScope ["self", "beat"] ["self", "beat"] (defScope s_Line_begun) := ⟨rfl, rfl, rfl, by decide +kernel, rfl, by decide +kernel, by decide +kernel⟩
theorem ok_Line_begun {f : Addr} {fd : FuncData} (F : Fun K "begun" "Line.begun" s_Line_begun f fd) (T : TL K C) : FnOk P w K mg base CX0 1 f fd ["self", "beat"] (sp_Line_begun C) := by
  refine F.ok sc_Line_begun (fun vs H Q E h => ?_) (fun cdv A outer s H vs Q E hr h => ?_)
  · obtain ⟨l, c, s, t, rfl, _⟩ := h
    rfl
  · obtain ⟨l, c, s, t, rfl, hL, k⟩ := h
    refine ⟨_, pss_one (ps_ret (pe_cmpR op_ge (pv 1) (pe_fld (pv 0) rfl) (nomark _))), ?_⟩
    obtain ⟨cl, a1, a3, a4, a5, a6⟩ := T
    obtain ⟨dx, tp, h1, htp⟩ := hL.ob
    walk_at "rds"
    exact k

def sp_Line_wanted (C : Addr) : Sp := fun vs H Q _ => ∃ (l c : Addr) (s : LineS) (t : Int), vs = [.ref l, .int t] ∧ LineAt C H l c s ∧ LineOk s ∧ ∀ p H', H p = none → Stp [] H H' → H' p = some (.lst ((s.want t).map V.int)) → Q (.ref p) H'
theorem sc_Line_wants : FnScope ["self", "beat"] ["self", "beat"] (defScope s_Line_wants) := ⟨rfl, rfl, rfl, by decide +kernel, rfl, by decide +kernel, by decide +kernel⟩
theorem ok_Line_wants {f : Addr} {fd : FuncData} (F : Fun K "wants" "Line.wants" s_Line_wants f fd) (T : TL K C) (G : OwnF P w K mg base "wanted" 2 ["pace", "passed"] sp_wanted) : FnOk P w K mg base CX0 3 f fd ["self", "beat"] (sp_Line_wanted C) := by
  refine F.ok sc_Line_wants (fun vs H Q E h => ?_) (fun cdv A outer s H vs Q E hr h => ?_)
  · obtain ⟨l, c, s, t, rfl, _⟩ := h
    rfl
  · obtain ⟨l, c, s, t, rfl, hL, hO, k⟩ := h
    refine ⟨_, pss_one (ps_ret (p_call G hr (pa_cons (pe_fld (pv 0) rfl) (pa_cons (pe_op op_sub (pv 1) (pe_fld (pv 0) rfl)) pa_nil)))), ?_⟩
    obtain ⟨cl, a1, a3, a4, a5, a6⟩ := T
    obtain ⟨dx, tp, h1, htp⟩ := hL.ob
    obtain ⟨b1, b2, b3, b4, _, _⟩ := hO
    walk_at "rds"
    exact ⟨tp, s.pn, s.pb, t - s.beg, rfl, htp, ⟨b1, b2⟩, ⟨b3, b4⟩, k⟩

def sp_Line_bool (C : Addr) (g : LineS → Int → Bool) : Sp := fun vs H Q _ => ∃ (l c : Addr) (s : LineS) (t : Int), vs = [.ref l, .int t] ∧ LineAt C H l c s ∧ LineOk s ∧ ∀ H', Stp [] H H' → Q (.bl (g s t)) H'
theorem sc_Line_over : FnScope ["self", "beat"] ["self", "beat"] (defScope s_Line_over) := ⟨rfl, rfl, rfl, by decide +kernel, rfl, by decide +kernel, by decide +kernel⟩
theorem atI_last1 {x : V} : atI [x] (-1) = some x := rfl
theorem atI_last2 {x y : V} : atI [x, y] (-1) = some y := rfl
theorem ok_Line_over {f : Addr} {fd : FuncData} (F : Fun K "over" "Line.over" s_Line_over f fd) (T : TL K C) (G : OwnM P w K mg base C "wants" 3 ["self", "beat"] (sp_Line_wanted C)) : FnOk P w K mg base CX0 4 f fd ["self", "beat"] (sp_Line_bool C LineS.over) := by
  refine F.ok sc_Line_over (fun vs H Q E h => ?_) (fun cdv A outer s H vs Q E hr h => ?_)
  · obtain ⟨l, c, s, t, rfl, _⟩ := h
    rfl
  · obtain ⟨l, c, s, t, rfl, hL, hO, k⟩ := h
    refine ⟨_, pss_one (ps_ret (pe_and (pe_cmpR op_notN (pe_fld (pv 0) rfl) pe_non (nomark _)) (pe_one (pe_cmpR op_ge (pe_ix ix_list (p_meth G hr (pv 0) (pa_cons (pv 1) pa_nil)) (pe_un un_neg pe_int) (fun _ _ => rfl)) (pe_fld (pv 0) rfl) (nomark _))))), ?_⟩
    obtain ⟨cl, a1, a3, a4, a5, a6⟩ := T
    obtain ⟨dx, tp, h1, htp⟩ := hL.ob
    unfold LineS.over at k
    cases e : s.many with
    | none =>
      rw [e] at k
      walk_at "rds"
      exact k H Stp.refl
    | some m =>
      rw [e] at k
      walk_at "rds"
      refine ⟨l, c, s, t, rfl, hL, hO, fun p H' hp hs hl => ?_⟩
      refine ⟨p, _, _, .int (s.last t), rfl, rfl, .inl (.inl hl), ?_, ?_⟩
      · unfold LineS.want LineS.last
        split
        · exact atI_last1
        · exact atI_last2
      · have h1' := hs.keep _ _ h1 (by simp)
        have := k H' hs
        walk_at "rds" <;> exact this

/-! the list of what any([.. for at in wanted]) goes over -/
theorem sc_Line_lacks : FnScope ["self", "beat", "at"] ["self", "beat"] (defScope s_Line_lacks) := ⟨rfl, rfl, rfl, by decide +kernel, rfl, by decide +kernel, by decide +kernel⟩
theorem ok_Line_lacks {f : Addr} {fd : FuncData} (F : Fun K "lacks" "Line.lacks" s_Line_lacks f fd) (T : TL K C) (B : Blt mg) (GB : OwnM P w K mg base C "begun" 1 ["self", "beat"] (sp_Line_begun C)) (GO : OwnM P w K mg base C "over" 4 ["self", "beat"] (sp_Line_bool C LineS.over))
    (GW : OwnM P w K mg base C "wants" 3 ["self", "beat"] (sp_Line_wanted C)) : FnOk P w K mg base CX0 5 f fd ["self", "beat"] (sp_Line_bool C LineS.lacks) := by
  refine F.ok sc_Line_lacks (fun vs H Q E h => ?_) (fun cdv A outer s H vs Q E hr h => ?_)
  · obtain ⟨l, c, s, t, rfl, _⟩ := h
    rfl
  · obtain ⟨l, c, s, t, rfl, hL, hO, k⟩ := h
    refine ⟨_, pss_cons (ps_if (PW.pt (pw_or (pt_not (pt_val (p_meth GB (hr.mono (by decide)) (pv 0) (pa_cons (pv 1) pa_nil)))) (pw_or1 (pt_val (p_meth GO hr (pv 0) (pa_cons (pv 1) pa_nil)))))) (pss_one (ps_ret pe_bl)) pss_nil)
      (pss_one (ps_ret (pe_callB (cr_any rfl) (by rfl) B.any PyProof.Rows.boot_any (pa_cons (pe_lc (own := [("at", 2)]) (te := tDNotIn (tVar 2) (tFld K (tVar 0) "came")) rfl sc_Line_lacks.nd (pi_list (p_meth GW (hr.mono (by decide)) (pv 0) (pa_cons (pv 1) pa_nil))) (blkOk_by (N := ["self", "beat", "at"]) (sc := defScope s_Line_lacks) (by decide +kernel))
        (fun _ _ _ _ _ => pg_name (i := 2) sc_Line_lacks.nd rfl (.inl rfl)) (fun _ _ _ _ _ => pts_nil) (fun _ _ _ _ _ => pe_cmp (pc_dnotin (hu_of hr) (pv 2) (pe_fld (pv 0) rfl)))) pa_nil)))), ?_⟩
    obtain ⟨cl, a1, a3, a4, a5, a6⟩ := T
    obtain ⟨dx, tp, h1, htp⟩ := hL.ob
    walk_at "rds"
    refine ⟨l, c, s, t, rfl, hL, ?_⟩
    walk_at "rds"
    unfold LineS.lacks at k
    cases eb : s.begun t with
    | false =>
      rw [eb] at k
      walk_at "rds"
      exact k H Stp.refl
    | true =>
      walk_at "rds"
      refine ⟨l, c, s, t, rfl, hL, hO, fun H1 hs1 => ?_⟩
      walk_at "rd"
      cases eo : s.over t with
      | true =>
        rw [eb, eo] at k
        walk_at "rd"
        exact k H1 hs1
      | false =>
        rw [eb, eo] at k
        walk_at "rd"
        have hL1 := hL.st0 hs1
        have h1' := hs1.keep _ _ h1 (by simp)
        refine ⟨_, rfl, l, dx, _, rfl, h1', ?_, ?_⟩
        · walk_at "rd"
        refine ⟨_, rfl, ?_⟩
        refine ⟨l, c, s, t, rfl, hL1, hO, fun p H2 hp hs2 hl => ?_⟩
        have hL2 := hL1.st0 hs2
        have h2' := hs2.keep _ _ h1' (by simp)
        refine ⟨p, rfl, ⟨_, .inl (.inl hl)⟩, lc_pure (K := K) (a := p) (H9 := H2) (i := 2) (te := tDNotIn (tVar 2) (tFld K (tVar 0) "came")) (σ := [some (.ref l), some (.int t), none]) (Q := fun x H => rAny K [x] H Q) (fun x => match x with | .int i => .bl (!s.has i) | _ => .non) (.inl (.inl hl)) ?_ (fun x hx H Q' hs q => ?_) (fun D H3 hD hs hl3 => ?_)⟩
        · rw [List.length_map]
          unfold LineS.want
          split <;> simp
        · obtain ⟨i, hi, rfl⟩ := List.mem_map.mp hx
          have h3' := hs.keep _ _ h2' (by simp)
          have hL3 := hL2.st0 hs
          refine ⟨_, rfl, _, rfl, l, C, dx, _, _, rfl, h3', cl, a4, rfl, c, _, rfl, DGet.k (k := Sum.inl i) hL3.dc, ?_⟩
          rw [cam_get, Option.isSome_map]
          exact q
        · refine ⟨D, (s.want t).map fun i => !s.has i, rfl, .inl (.inl ?_), ?_⟩
          · rw [hl3, List.map_map, List.map_map]
            rfl
          · have := k H3 ((hs1.trans hs2).trans hs)
            simp only [Bool.true_and, Bool.not_false] at this
            rw [List.any_map]
            exact this
end
end Mx

namespace Mx
open PySem L2
set_option hygiene false in
local macro_rules | `(tactic| walk_at "rd") => `(tactic| try simp only [L2.start, List.map_cons, List.map_nil, List.length_cons, List.length_nil, Nat.reduceAdd, Nat.reduceSub, Nat.reduceLT, Nat.reduceLeDiff, List.replicate_succ, List.replicate_zero, List.append_nil, List.nil_append, List.cons_append, List.set_cons_zero, List.set_cons_succ, List.getElem?_cons_zero, List.getElem?_cons_succ,
  Option.some.injEq, List.cons.injEq, and_true, true_and, and_assoc, reduceCtorEq, L2.V.int.injEq, L2.V.ref.injEq, L2.V.bl.injEq, L2.V.str.injEq, L2.V.ty.injEq, L2.HO.ins.injEq, L2.HO.lst.injEq, L2.HO.tup.injEq, L2.HO.dK.injEq, exists_eq_left', exists_eq_left, exists_eq_right, exists_eq', exists_eq, exists_and_left, exists_and_right, reduceIte, Bool.false_eq_true, Bool.not_true, Bool.not_false,
  L2.tSeq, L2.tIfS, L2.tRet, L2.tRetN, L2.tNext, L2.tAsg, L2.gName, L2.tVar, L2.tC, L2.tCons, L2.tNil, L2.tCB, L2.tOp, L2.tUn, L2.tTup, L2.tLst, L2.tB, L2.tOr, L2.tAnd, L2.tNot, L2.tAndV, L2.tOrV, L2.tNotV, L2.tIf, L2.tTest, L2.tChain, L2.rI, L2.rI0, L2.rU, L2.tDrop, L2.tNever, L2.tCall, L2.tMeth, L2.tMake, L2.rGcd, L2.tFld, L2.sFld, L2.sFldAug, Mx.sFldA, Mx.sFldAugA, L2.rAdd, L2.rSub, L2.rEq, L2.rNe, L2.tDGet, L2.tDIn, L2.tDNotIn, L2.sDPut,
  Mx.isi_int_bool, Mx.isi_int_int, Mx.isi_int_tuple, Mx.isi_int_list, Mx.isi_int_str, Mx.scal_int, Mx.scal_str, Mx.scal_bl, Mx.ofString_inj, Mx.ofString_beq, Mx.lk_cons, Mx.pf_nil, Mx.pf_cons, Mx.sz1, Mx.sz2, List.lookup_nil, String.reduceEq, decide_true, decide_false, decide_eq_true_eq, Int.natAbs_natCast, L2.upd_same, L2.upd_upd, L2.cxOf, Mx.fsL, Mx.gFld, L2.gCons, L2.gNil, L2.tDNewK, Mx.optV])
set_option hygiene false in
local macro_rules | `(tactic| walk_at "rds") => `(tactic| try simp only [L2.start, List.map_cons, List.map_nil, List.length_cons, List.length_nil, Nat.reduceAdd, Nat.reduceSub, Nat.reduceLT, Nat.reduceLeDiff, List.replicate_succ, List.replicate_zero, List.append_nil, List.nil_append, List.cons_append, List.set_cons_zero, List.set_cons_succ, List.getElem?_cons_zero, List.getElem?_cons_succ,
  Option.some.injEq, List.cons.injEq, and_true, true_and, and_assoc, reduceCtorEq, L2.V.int.injEq, L2.V.ref.injEq, L2.V.bl.injEq, L2.V.str.injEq, L2.V.ty.injEq, L2.HO.ins.injEq, L2.HO.lst.injEq, L2.HO.tup.injEq, L2.HO.dK.injEq, exists_eq_left', exists_eq_left, exists_eq_right, exists_eq', exists_eq, exists_and_left, exists_and_right, reduceIte, Bool.false_eq_true, Bool.not_true, Bool.not_false,
  L2.tSeq, L2.tIfS, L2.tRet, L2.tRetN, L2.tNext, L2.tAsg, L2.gName, L2.tVar, L2.tC, L2.tCons, L2.tNil, L2.tCB, L2.tOp, L2.tUn, L2.tTup, L2.tLst, L2.tB, L2.tOr, L2.tAnd, L2.tNot, L2.tAndV, L2.tOrV, L2.tNotV, L2.tIf, L2.tTest, L2.tChain, L2.rI, L2.rI0, L2.rU, L2.tDrop, L2.tNever, L2.tCall, L2.tMeth, L2.tMake, L2.rGcd, L2.tFld, L2.sFld, L2.sFldAug, Mx.sFldA, Mx.sFldAugA, L2.rAdd, L2.rSub, L2.rEq, L2.rNe, L2.tDGet, L2.tDIn, L2.tDNotIn, L2.sDPut,
  Mx.isi_int_bool, Mx.isi_int_int, Mx.isi_int_tuple, Mx.isi_int_list, Mx.isi_int_str, Mx.scal_int, Mx.scal_str, Mx.scal_bl, Mx.ofString_inj, Mx.ofString_beq, Mx.lk_cons, Mx.pf_nil, Mx.pf_cons, Mx.sz1, Mx.sz2, List.lookup_nil, String.reduceEq, decide_true, decide_false, decide_eq_true_eq, Int.natAbs_natCast, L2.upd_same, L2.upd_upd, L2.cxOf, Mx.fsL, Mx.gFld, L2.gCons, L2.gNil, L2.tDNewK, Mx.optV, *])

theorem look_mem {c : List (Int × Int)} {i n : Int} (h : look c i = some n) : (i, n) ∈ c := by
  unfold look at h
  cases e : c.find? fun p => decide (p.1 = i) with
  | none => rw [e] at h; cases h
  | some p =>
    rw [e] at h
    have h1 := List.find?_some e
    have h2 := List.mem_of_find?_eq_some e
    have h3 : p.2 = n := Option.some.inj h
    have h4 : p.1 = i := of_decide_eq_true h1
    rw [← h3, ← h4]
    exact h2
theorem LineS.atw {s : LineS} {i : Int} (h : s.has i = true) : look s.came i = some (s.at i) := by
  unfold LineS.has at h
  unfold LineS.at
  cases e : look s.came i with
  | none => rw [e] at h; cases h
  | some n => rfl
theorem LineOk.small {s : LineS} (h : LineOk s) {i n : Int} (e : look s.came i = some n) : -999 ≤ n ∧ n ≤ 999 := h.cm _ (look_mem e)
theorem ready_has {s : LineS} {t : Int} (h : s.ready t = true) : ∀ i ∈ s.want t, s.has i = true := by
  unfold LineS.ready LineS.lacks at h
  cases e1 : s.begun t <;> cases e2 : s.over t <;> rw [e1, e2] at h <;> simp at h
  exact h
section
variable {P : Program} {w : World} {K : PySem.W.Frag} {mg : Str → Option Value} {base : Heap} {C : Addr}
theorem sc_Line_ready : FnScope ["self", "beat"] ["self", "beat"] (defScope s_Line_ready) := ⟨rfl, rfl, rfl, by decide +kernel, rfl, by decide +kernel, by decide +kernel⟩
theorem ok_Line_ready {f : Addr} {fd : FuncData} (F : Fun K "ready" "Line.ready" s_Line_ready f fd) (GB : OwnM P w K mg base C "begun" 1 ["self", "beat"] (sp_Line_begun C)) (GO : OwnM P w K mg base C "over" 4 ["self", "beat"] (sp_Line_bool C LineS.over))
    (GL : OwnM P w K mg base C "lacks" 5 ["self", "beat"] (sp_Line_bool C LineS.lacks)) : FnOk P w K mg base CX0 6 f fd ["self", "beat"] (sp_Line_bool C LineS.ready) := by
  refine F.ok sc_Line_ready (fun vs H Q E h => ?_) (fun cdv A outer s H vs Q E hr h => ?_)
  · obtain ⟨l, c, s, t, rfl, _⟩ := h
    rfl
  · obtain ⟨l, c, s, t, rfl, hL, hO, k⟩ := h
    refine ⟨_, pss_one (ps_ret (pe_and (p_meth GB (hr.mono (by decide)) (pv 0) (pa_cons (pv 1) pa_nil)) (pe_and (pe_not (p_meth GO (hr.mono (by decide)) (pv 0) (pa_cons (pv 1) pa_nil))) (pe_one (pe_not (p_meth GL hr (pv 0) (pa_cons (pv 1) pa_nil))))))), ?_⟩
    obtain ⟨dx, tp, h1, htp⟩ := hL.ob
    walk_at "rds"
    refine ⟨l, c, s, t, rfl, hL, ?_⟩
    walk_at "rds"
    unfold LineS.ready at k
    cases eb : s.begun t with
    | false =>
      rw [eb] at k
      walk_at "rds"
      exact k H Stp.refl
    | true =>
      walk_at "rds"
      refine ⟨l, c, s, t, rfl, hL, hO, fun H1 hs1 => ?_⟩
      have h1' := hs1.keep _ _ h1 (by simp)
      have hL1 := hL.st0 hs1
      cases eo : s.over t with
      | true =>
        rw [eb, eo] at k
        have := k H1 hs1
        walk_at "rds" <;> exact this
      | false =>
        rw [eb, eo] at k
        walk_at "rds"
        refine ⟨l, c, s, t, rfl, hL1, hO, fun H2 hs2 => ?_⟩
        have := k H2 (hs1.trans hs2)
        simp only [Bool.true_and, Bool.not_false] at this
        walk_at "rds" <;> exact this

def sp_Line_value (C : Addr) : Sp := fun vs H Q _ => ∃ (l c : Addr) (s : LineS) (t : Int), vs = [.ref l, .int t] ∧ LineAt C H l c s ∧ LineOk s ∧ s.ready t = true ∧ ∀ p H', H p = none → Stp [] H H' → H' p = some (.tup (frac (s.value t))) → Q (.ref p) H'
theorem sc_Line_value : FnScope ["self", "beat", "low", "rest", "beats"] ["self", "beat"] (defScope s_Line_value) := ⟨rfl, rfl, rfl, by decide +kernel, rfl, by decide +kernel, by decide +kernel⟩
theorem ok_Line_value {f : Addr} {fd : FuncData} (F : Fun K "value" "Line.value" s_Line_value f fd) (T : TL K C) (G : OwnF P w K mg base "spot" 1 ["pace", "passed"] sp_spot) (GR : OwnF P w K mg base "ratio" 1 ["top", "bottom"] sp_ratio) :
    FnOk P w K mg base CX0 2 f fd ["self", "beat"] (sp_Line_value C) := by
  refine F.ok sc_Line_value (fun vs H Q E h => ?_) (fun cdv A outer s H vs Q E hr h => ?_)
  · obtain ⟨l, c, s, t, rfl, _⟩ := h
    rfl
  · obtain ⟨l, c, s, t, rfl, hL, hO, hR, k⟩ := h
    have hu := hu_of hr
    refine ⟨_, pss_cons (ps_asg (p_call G hr (pa_cons (pe_fld (pv 0) rfl) (pa_cons (pe_op op_sub (pv 1) (pe_fld (pv 0) rfl)) pa_nil))) (pg_tup rfl (pgs_cons (pg_name (i := 2) sc_Line_value.nd rfl (.inl rfl)) (pgs_cons (pg_name (i := 3) sc_Line_value.nd rfl (.inl rfl)) pgs_nil))))
      (pss_cons (ps_if (pt_cmpR op_eq (pv 3) pe_int (nomark _)) (pss_one (ps_ret (p_call GR hr (pa_cons (pe_dget hu (pe_fld (pv 0) rfl) (pv 2) (fun _ _ => rfl)) (pa_cons pe_int pa_nil))))) pss_nil)
      (pss_cons (ps_set (i := 4) sc_Line_value.nd rfl (Or.inl rfl) (pe_ix ix_tup (pe_fld (pv 0) rfl) pe_int (fun _ _ => rfl)))
      (pss_one (ps_ret (p_call GR hr (pa_cons (pe_op op_add (pe_op op_mul (pe_dget hu (pe_fld (pv 0) rfl) (pv 2) (fun _ _ => rfl)) (pe_op op_sub (pv 4) (pv 3))) (pe_op op_mul (pe_dget hu (pe_fld (pv 0) rfl) (pe_op op_add (pv 2) pe_int) (fun _ _ => rfl)) (pv 3))) (pa_cons (pv 4) pa_nil))))))), ?_⟩
    obtain ⟨cl, a1, a3, a4, a5, a6⟩ := T
    obtain ⟨dx, tp, h1, htp⟩ := hL.ob
    have hw := ready_has hR
    unfold LineS.want at hw
    have hB := hO
    obtain ⟨b1, b2, b3, b4, _, _⟩ := hB
    walk_at "rds"
    refine ⟨tp, s.pn, s.pb, t - s.beg, rfl, htp, ⟨b1, b2⟩, ⟨b3, b4⟩, fun p H1 hp hs hl => ⟨p, _, rfl, .inl (.inl hl), rfl, ?_⟩⟩
    rw [show lowN (t - s.beg) s.pn s.pb = s.low t from rfl, show restN (t - s.beg) s.pn s.pb = s.rest t from rfl]
    have h1' := hs.keep _ _ h1 (by simp)
    have hL1 := hL.st0 hs
    have hd := hL1.dc
    have hlow : s.has (s.low t) = true := by
      apply hw
      split <;> simp
    have e1 := LineS.atw hlow
    have b1 := hO.small e1
    have htp1 := hs.tup _ _ htp
    have g1 : DGet H1 c (.int (s.low t)) (some (.int (s.at (s.low t)))) := by
      have := DGet.k (k := (Sum.inl (s.low t) : Key)) hd
      rw [cam_get, e1] at this
      exact this
    unfold LineS.value at k
    by_cases e : s.rest t = 0
    · rw [if_pos e] at k
      walk_at "rds"
      refine ⟨_, g1, _, _, rfl, by omega, by decide, fun q H2 hq hs2 hl2 => ?_⟩
      have hq0 := hs.free hq (by simp)
      exact k q _ hq0 (hs.trans hs2) hl2
    · rw [if_neg e] at k hw
      have hlow2 : s.has (s.low t + 1) = true := hw _ (by simp)
      have e2 := LineS.atw hlow2
      have b2 := hO.small e2
      have g2 : DGet H1 c (.int (s.low t + 1)) (some (.int (s.at (s.low t + 1)))) := by
        have := DGet.k (k := (Sum.inl (s.low t + 1) : Key)) hd
        rw [cam_get, e2] at this
        exact this
      obtain ⟨o1, o2, o3, o4, _, _⟩ := hO
      have r0 : 0 ≤ s.rest t := Int.emod_nonneg _ (by omega)
      have r1 : s.rest t < s.pb := Int.emod_lt_of_pos _ (by omega)
      walk_at "rds"
      refine ixT_1 (.inl htp1) ?_
      walk_at "rds"
      refine ⟨_, g1, _, rfl, .inl ⟨by omega, by omega⟩, _, g2, _, rfl, .inl ⟨by omega, by omega⟩, _, _, rfl, by omega, ?_, fun q H2 hq hs2 hl2 => ?_⟩
      · refine Nat.lt_of_lt_of_le (show s.pb.natAbs < 2 ^ 4 by omega) (Nat.pow_le_pow_right (by decide) (by decide))
      · have hq0 := hs.free hq (by simp)
        exact k q _ hq0 (hs.trans hs2) hl2
end
end Mx
namespace Mx
open PySem L2
set_option hygiene false in
local macro_rules | `(tactic| walk_at "rd") => `(tactic| try simp only [L2.start, List.map_cons, List.map_nil, List.length_cons, List.length_nil, Nat.reduceAdd, Nat.reduceSub, Nat.reduceLT, Nat.reduceLeDiff, List.replicate_succ, List.replicate_zero, List.append_nil, List.nil_append, List.cons_append, List.set_cons_zero, List.set_cons_succ, List.getElem?_cons_zero, List.getElem?_cons_succ,
  Option.some.injEq, List.cons.injEq, and_true, true_and, and_assoc, reduceCtorEq, L2.V.int.injEq, L2.V.ref.injEq, L2.V.bl.injEq, L2.V.str.injEq, L2.V.ty.injEq, L2.HO.ins.injEq, L2.HO.lst.injEq, L2.HO.tup.injEq, L2.HO.dK.injEq, exists_eq_left', exists_eq_left, exists_eq_right, exists_eq', exists_eq, exists_and_left, exists_and_right, reduceIte, Bool.false_eq_true, Bool.not_true, Bool.not_false,
  L2.tSeq, L2.tIfS, L2.tRet, L2.tRetN, L2.tNext, L2.tAsg, L2.gName, L2.tVar, L2.tC, L2.tCons, L2.tNil, L2.tCB, L2.tOp, L2.tUn, L2.tTup, L2.tLst, L2.tB, L2.tOr, L2.tAnd, L2.tNot, L2.tAndV, L2.tOrV, L2.tNotV, L2.tIf, L2.tTest, L2.tChain, L2.rI, L2.rI0, L2.rU, L2.tDrop, L2.tNever, L2.tCall, L2.tMeth, L2.tMake, L2.rGcd, L2.tFld, L2.sFld, L2.sFldAug, Mx.sFldA, Mx.sFldAugA, L2.rAdd, L2.rSub, L2.rEq, L2.rNe, L2.tDGet, L2.tDIn, L2.tDNotIn, L2.sDPut,
  Mx.isi_int_bool, Mx.isi_int_int, Mx.isi_int_tuple, Mx.isi_int_list, Mx.isi_int_str, Mx.scal_int, Mx.scal_str, Mx.scal_bl, Mx.ofString_inj, Mx.ofString_beq, Mx.lk_cons, Mx.pf_nil, Mx.pf_cons, Mx.sz1, Mx.sz2, List.lookup_nil, String.reduceEq, decide_true, decide_false, decide_eq_true_eq, Int.natAbs_natCast, L2.upd_same, L2.upd_upd, L2.cxOf, Mx.fsL, Mx.gFld, L2.gCons, L2.gNil, L2.tDNewK, L2.tDSetd, Mx.optV])
set_option hygiene false in
local macro_rules | `(tactic| walk_at "rds") => `(tactic| try simp only [L2.start, List.map_cons, List.map_nil, List.length_cons, List.length_nil, Nat.reduceAdd, Nat.reduceSub, Nat.reduceLT, Nat.reduceLeDiff, List.replicate_succ, List.replicate_zero, List.append_nil, List.nil_append, List.cons_append, List.set_cons_zero, List.set_cons_succ, List.getElem?_cons_zero, List.getElem?_cons_succ,
  Option.some.injEq, List.cons.injEq, and_true, true_and, and_assoc, reduceCtorEq, L2.V.int.injEq, L2.V.ref.injEq, L2.V.bl.injEq, L2.V.str.injEq, L2.V.ty.injEq, L2.HO.ins.injEq, L2.HO.lst.injEq, L2.HO.tup.injEq, L2.HO.dK.injEq, exists_eq_left', exists_eq_left, exists_eq_right, exists_eq', exists_eq, exists_and_left, exists_and_right, reduceIte, Bool.false_eq_true, Bool.not_true, Bool.not_false,
  L2.tSeq, L2.tIfS, L2.tRet, L2.tRetN, L2.tNext, L2.tAsg, L2.gName, L2.tVar, L2.tC, L2.tCons, L2.tNil, L2.tCB, L2.tOp, L2.tUn, L2.tTup, L2.tLst, L2.tB, L2.tOr, L2.tAnd, L2.tNot, L2.tAndV, L2.tOrV, L2.tNotV, L2.tIf, L2.tTest, L2.tChain, L2.rI, L2.rI0, L2.rU, L2.tDrop, L2.tNever, L2.tCall, L2.tMeth, L2.tMake, L2.rGcd, L2.tFld, L2.sFld, L2.sFldAug, Mx.sFldA, Mx.sFldAugA, L2.rAdd, L2.rSub, L2.rEq, L2.rNe, L2.tDGet, L2.tDIn, L2.tDNotIn, L2.sDPut,
  Mx.isi_int_bool, Mx.isi_int_int, Mx.isi_int_tuple, Mx.isi_int_list, Mx.isi_int_str, Mx.scal_int, Mx.scal_str, Mx.scal_bl, Mx.ofString_inj, Mx.ofString_beq, Mx.lk_cons, Mx.pf_nil, Mx.pf_cons, Mx.sz1, Mx.sz2, List.lookup_nil, String.reduceEq, decide_true, decide_false, decide_eq_true_eq, Int.natAbs_natCast, L2.upd_same, L2.upd_upd, L2.cxOf, Mx.fsL, Mx.gFld, L2.gCons, L2.gNil, L2.tDNewK, L2.tDSetd, Mx.optV, *])

section
variable {P : Program} {w : World} {K : PySem.W.Frag} {mg : Str → Option Value} {base : Heap} {C : Addr}
/-- numbers that a parcel may bring -/
structure ParOk (s : LineS) (i : Int) (ns : List Int) : Prop where
  i0 : 0 ≤ i
  i1 : i ≤ 999
  n0 : 1 ≤ ns.length
  n1 : ns.length ≤ 32
  nr : ∀ n ∈ ns, -999 ≤ n ∧ n ≤ 999
  rm : i + (ns.length : Int) ≤ s.room
def sp_Line_take (K : PySem.W.Frag) (C : Addr) : Sp := fun vs H Q _ => ∃ (l c a : Addr) (s : LineS) (i : Int) (ns : List Int), vs = [.ref l, .int i, .ref a] ∧ LineAt C H l c s ∧ SqL K H a (ns.map V.int) ∧ a ≠ l ∧ a ≠ c ∧ ParOk s i ns ∧ s.came.length ≤ 90000 ∧
  ∀ H', LineAt C H' l c (s.take i ns) → Stp [l, c] H H' → Q .non H'
theorem sc_Line_take : FnScope ["self", "place", "numbers", "behind", "at", "number"] ["self", "place", "numbers"] (defScope s_Line_take) := ⟨rfl, rfl, rfl, by decide +kernel, rfl, by decide +kernel, by decide +kernel⟩
theorem ok_Line_take {f : Addr} {fd : FuncData} (F : Fun K "take" "Line.take" s_Line_take f fd) (T : TL K C) (B : Blt mg) {tm : Tok} (hM : mg "MOST" = some (.int 1000 tm)) (GW : OwnF P w K mg base "is_whole" 1 ["number", "low", "high"] sp_is_whole)
    (GR : OwnM P w K mg base C "room" 1 ["self"] (sp_Line_room C)) : FnOk P w K mg base CX0 2 f fd ["self", "place", "numbers"] (sp_Line_take K C) := by
  refine F.ok sc_Line_take (fun vs H Q E h => ?_) (fun cdv A outer s H vs Q E hr h => ?_)
  · obtain ⟨l, c, a, s, i, ns, rfl, _⟩ := h
    rfl
  · obtain ⟨l, c, a, s, i, ns, rfl, hL, ha, hal, hac, hP, hlen, k⟩ := h
    refine ⟨_, pss_cons (ps_if (pt_not (pt_val (p_call GW hr (pa_cons (pv 1) (pa_cons pe_int (pa_cons (pe_op op_sub (pe_glob (v := .int 1000) (by rfl) hM ⟨_, rfl⟩) pe_int) pa_nil)))))) (pss_one ps_never) pss_nil)
      (pss_cons (ps_if (pt_not (pt_val (p_call GW hr (pa_cons (pe_callB call_len_seq (by rfl) B.len PySem.boot_len (pa_cons (pv 2) pa_nil)) (pa_cons pe_int (pa_cons pe_int pa_nil)))))) (pss_one ps_never) pss_nil)
      (pss_cons (ps_if (pt_not (pt_val (pe_callB (cr_all rfl) (by rfl) B.all PyProof.Rows.boot_all (pa_cons (pe_lc (own := [("number", 5)]) (te := tCall sp_is_whole [] E0 (tCons (tVar 5) (tCons (tUn (rU fun i => .int (-i)) (tC (.int 999))) (tCons (tC (.int 999)) tNil)))) rfl sc_Line_take.nd (pi_list (pv 2)) (blkOk_by (N := ["self", "place", "numbers", "behind", "at", "number"]) (sc := defScope s_Line_take) (by decide +kernel))
        (fun _ _ _ _ _ => pg_name (i := 5) sc_Line_take.nd rfl (.inl rfl)) (fun _ _ _ _ _ => pts_nil) (fun _ _ _ _ _ => p_call GW hr (pa_cons (pv 5) (pa_cons (pe_un un_neg pe_int) (pa_cons pe_int pa_nil))))) pa_nil)))) (pss_one ps_never) pss_nil)
      (pss_cons (ps_set (i := 3) sc_Line_take.nd rfl (.inl rfl) (pe_op op_add (pv 1) (pe_callB call_len_seq (by rfl) B.len PySem.boot_len (pa_cons (pv 2) pa_nil))))
      (pss_cons (ps_if (pt_cmpR op_gt (pv 3) (p_meth0 GR hr (pv 0)) (nomark _)) (pss_one ps_never) pss_nil)
      (pss_cons (ps_for PassesOwn.never rfl (pi_enumS (by rfl) B.enumerate (pv 2) (pv 1)) (pg_tup rfl (pgs_cons (pg_name (i := 4) sc_Line_take.nd rfl (.inl rfl)) (pgs_cons (pg_name (i := 5) sc_Line_take.nd rfl (.inl rfl)) pgs_nil)))
        (pss_one (ps_expr (pe_dsetd (pe_fld (pv 0) rfl) (pv 4) (pv 5) ⟨rfl, rfl, rfl, rfl⟩))))
      (pss_one (ps_fld (pv 0) (pe_callB (call_max2 rfl) (by rfl) B.max PyProof.Rows.boot_max (pa_cons (pe_fld (pv 0) rfl) (pa_cons (pv 3) pa_nil))) rfl))))))), ?_⟩
    obtain ⟨cl, a1, a3, a4, a5, a6⟩ := T
    obtain ⟨dx, tp, h1, htp⟩ := hL.ob
    obtain ⟨p1, p2, p3, p4, p5, p6⟩ := hP
    walk_at "rds"
    refine ⟨i, 0, 999, rfl, _, rfl, ?_⟩
    rw [decide_eq_true (show 0 ≤ i ∧ i ≤ 999 from ⟨p1, p2⟩)]
    refine iteF ⟨_, .inl ha, _, _, _, rfl, _, rfl, ?_⟩
    rw [decide_eq_true (show 1 ≤ (((ns.map V.int).length : Nat) : Int) ∧ (((ns.map V.int).length : Nat) : Int) ≤ 32 from by rw [List.length_map]; omega)]
    refine iteF ⟨_, rfl, a, rfl, ⟨_, ha⟩, lc_pure (K := K) (a := a) (H9 := H) (i := 5) (te := tCall sp_is_whole [] E0 (tCons (tVar 5) (tCons (tUn (rU fun i => .int (-i)) (tC (.int 999))) (tCons (tC (.int 999)) tNil)))) (σ := [some (.ref l), some (.int i), some (.ref a), none, none, none]) (Q := fun x H1 => rAll K [x] H1 _) (fun _ => .bl true) ha ?_ (fun x hx H1 Q' hs q => ?_) (fun D H1 hD hs1 hl1 => ?_)⟩
    · rw [List.length_map]
      omega
    · obtain ⟨n, hn, rfl⟩ := List.mem_map.mp hx
      refine ⟨_, rfl, _, rfl, n, -999, 999, rfl, ?_⟩
      rw [decide_eq_true (p5 n hn)]
      exact q
    · have ha1 := seq_st ha hs1 (by simp)
      have h1' := hs1.keep _ _ h1 (by simp)
      have hL1 := hL.st0 hs1
      refine ⟨D, ns.map fun _ => true, rfl, .inl (.inl (by rw [hl1, List.map_map, List.map_map]; rfl)), _, rfl, ?_⟩
      rw [show (ns.map fun _ => true).all id = true from by simp]
      refine iteF ⟨_, .inl ha1, _, _, h1', ?_, l, c, s, rfl, hL1, _, rfl, ?_⟩
      · walk_at "rd"
      rw [if_neg (by rw [List.length_map]; omega)]
      refine ⟨_, rfl, _, rfl, a, _, i, rfl, rfl, ha1, by omega, by omega, ?_⟩
      refine for_enumS (K := K) (a := a) (z := i) (xs := ns.map V.int) (fun j σ H2 => ∃ v4 v5, σ = [some (.ref l), some (.int i), some (.ref a), some (.int (i + ((ns.map V.int).length : Nat))), v4, v5] ∧ LineAt C H2 l c { s with came := putAll s.came i (ns.take j) } ∧ Stp [l, c] H H2) ⟨_, _, rfl, hL1, hs1.sub (by simp)⟩ (fun j σ H2 _ h => ?_) (fun j x σ H2 U hj h hU => ?_) (fun σ H2 h => ?_)
      · obtain ⟨_, _, _, _, hs2⟩ := h
        exact seq_st ha hs2 (by simp [hal, hac])
      · obtain ⟨v4, v5, rfl, hL2, hs2⟩ := h
        rw [List.getElem?_map] at hj
        obtain ⟨n, hn, rfl⟩ := Option.map_eq_some_iff.mp hj
        have hst := Stp.new (o := .tup [.int (i + (j : Nat)), .int n]) hU
        have hL3 := hL2.st0 hst
        obtain ⟨dy, tp2, g1, ht2⟩ := hL3.ob
        refine ⟨U, _, rfl, .inl (.inl upd_same), rfl, ?_⟩
        walk_at "rds"
        have hd := hL3.dc

        refine ⟨.inl ⟨_, .inl hd⟩, _, hd, Sum.inl (i + (j : Nat)), rfl, ?_, fun v hv => ?_, fun hv => ?_⟩
        · refine Nat.lt_of_le_of_lt ?_ (show 90032 < sizeLine by decide)
          have := putAll_len (ns.take j) s.came i
          have : (ns.take j).length ≤ ns.length := by rw [List.length_take]; exact Nat.min_le_right _ _
          rw [show (cam (putAll s.came i (ns.take j))).length = (putAll s.came i (ns.take j)).length from by simp [cam]]
          omega
        all_goals
          have hjl : (ns.take j).length = j := by
            rw [List.length_take]
            have := (List.getElem?_eq_some_iff.mp hn).1
            omega
          have et : ns.take (j + 1) = ns.take j ++ [n] := by rw [List.take_add_one, hn]; rfl
          have ep := putAll_snoc (ns.take j) s.came i n
          rw [hjl, ← et] at ep
        · refine ⟨?_, (hs2.trans hst).sub (by simp)⟩
          rw [cam_get] at hv
          cases el : look (putAll s.came i (ns.take j)) (i + (j : Nat)) with
          | none => rw [el] at hv; cases hv
          | some y =>
            rw [ep]
            unfold put1
            rw [el]
            exact hL3
        · rw [cam_get] at hv
          have el : look (putAll s.came i (ns.take j)) (i + (j : Nat)) = none := by
            cases el : look (putAll s.came i (ns.take j)) (i + (j : Nat)) with
            | none => rfl
            | some y => rw [el] at hv; cases hv
          have hne := hL3.ne
          refine ⟨⟨⟨dy, tp2, ?_, (Stp.put hd (fun xs z => nomatch z)).tup _ _ ht2⟩, ?_⟩, ((hs2.trans hst).trans (Stp.put hd (fun xs z => nomatch z))).sub (by simp)⟩
          · rw [upd_ne hne]
            exact g1
          · rw [upd_same, ep, cam_put el]
      · obtain ⟨v4, v5, rfl, hL2, hs2⟩ := h
        rw [List.length_map, List.take_length] at hL2
        obtain ⟨dy, tp2, g1, ht2⟩ := hL2.ob
        have hne := hL2.ne
        walk_at "rds"
        refine k _ ⟨⟨dy, tp2, ?_, (Stp.put g1 (fun xs z => nomatch z)).tup _ _ ht2⟩, ?_⟩ ?_
        · rw [upd_same]
          have e : (if i + (((ns.map V.int).length : Nat) : Int) > s.reach then i + (((ns.map V.int).length : Nat) : Int) else s.reach) = max s.reach (i + (ns.length : Int)) := by
            rw [List.length_map]
            split <;> omega
          rw [e]
          rfl
        · rw [upd_ne hne.symm]
          exact hL2.dc
        · exact (hs2.trans (Stp.put g1 (fun xs z => nomatch z))).sub (by simp)
end
end Mx

namespace Mx
open PySem L2
/-! ### loudness -/
structure LoudS where
  level : Rat
  stride : Rat
  left : Int
def LoudS.on (s : LoudS) : LoudS := if 0 < s.left then ⟨s.level + s.stride, s.stride, s.left - 1⟩ else s
def LoudS.to (s : LoudS) (l b : Int) : LoudS := ⟨s.level, (mkRat l 64 - s.level) * mkRat 1 b.toNat, b⟩
/-- of a common bottom 64 * D, of so many bits -/
structure LoudIs (D : Nat) (a b : Int) (s : LoudS) : Prop where
  d0 : 0 < D
  lv : s.level = mkRat a (64 * D)
  st : s.stride = mkRat b (64 * D)
  a0 : 0 ≤ a
  a1 : a ≤ 64 * (D : Int)
  b0 : -(64 * (D : Int)) ≤ b
  b1 : b ≤ 64 * (D : Int)
  l0 : 0 ≤ s.left
  e0 : 0 ≤ a + b * s.left
  e1 : a + b * s.left ≤ 64 * (D : Int)
def LoudOk (d : Nat) (s : LoudS) : Prop := ∃ D a b, LoudIs D a b s ∧ 64 * D < 2 ^ d
theorem LoudIs.rb {d D : Nat} {a b : Int} {s : LoudS} (h : LoudIs D a b s) (hd : 64 * D < 2 ^ d) : Rb d s.level ∧ Rb d s.stride := by
  obtain ⟨d0, lv, st, a0, a1, b0, b1, l0, e0, e1⟩ := h
  rw [lv, st]
  exact ⟨Rb.of (by omega) (by omega) hd, Rb.of (by omega) (by omega) hd⟩
theorem mk_add (a b : Int) {D : Nat} (h : 0 < D) : mkRat a D + mkRat b D = mkRat (a + b) D := by
  rw [Rat.mkRat_eq_div, Rat.mkRat_eq_div, Rat.mkRat_eq_div, Rat.intCast_add]
  have : ((D : Nat) : Rat) ≠ 0 := by
    intro z
    have := Rat.natCast_eq_zero_iff.mp z
    omega
  grind
theorem LoudOk.on {d : Nat} {s : LoudS} (h : LoudOk d s) : LoudOk d s.on := by
  obtain ⟨D, a, b, h, hd⟩ := h
  unfold LoudS.on
  split
  · rename_i hp
    obtain ⟨d0, lv, st, a0, a1, b0, b1, l0, e0, e1⟩ := h
    refine ⟨D, a + b, b, ⟨d0, ?_, st, ?_, ?_, b0, b1, by show 0 ≤ s.left - 1; omega, ?_, ?_⟩, hd⟩
    · show s.level + s.stride = _
      rw [lv, st, mk_add a b (by omega)]
    · by_cases hb : 0 ≤ b
      · omega
      · have : b * s.left ≤ b * 1 := Int.mul_le_mul_of_nonpos_left (by omega) (by omega)
        omega
    · by_cases hb : 0 ≤ b
      · have : b * 1 ≤ b * s.left := Int.mul_le_mul_of_nonneg_left (by omega) hb
        omega
      · omega
    · show 0 ≤ a + b + b * (s.left - 1)
      have : b * (s.left - 1) = b * s.left - b := by rw [Int.mul_sub, Int.mul_one]
      omega
    · show a + b + b * (s.left - 1) ≤ _
      have : b * (s.left - 1) = b * s.left - b := by rw [Int.mul_sub, Int.mul_one]
      omega
  · exact ⟨D, a, b, h, hd⟩
def fsD (lv st : V) (left : Int) : List (Str × V) := [("level", lv), ("stride", st), ("left", .int left)]
def LoudAt (K : PySem.W.Frag) (C : Addr) (H : Hp) (q : Addr) (s : LoudS) : Prop := ∃ dx lv st, H q = some (.ins C dx (fsD lv st s.left)) ∧ IsQ K H lv s.level ∧ IsQ K H st s.stride
theorem LoudAt.st {K : PySem.W.Frag} {C : Addr} {F : List Addr} {H H' : Hp} {q : Addr} {s : LoudS} (h : LoudAt K C H q s) (k : Stp F H H') (n : q ∉ F) : LoudAt K C H' q s := by
  obtain ⟨dx, lv, st, h1, h2, h3⟩ := h
  exact ⟨dx, lv, st, k.keep _ _ h1 n, h2.st k, h3.st k⟩
structure TD (K : PySem.W.Frag) (C : Addr) : Prop where
  cl : Cls K C
  a1 : NoAttr K C "level"
  a2 : NoAttr K C "stride"
  a3 : NoAttr K C "left"
/-- the top's constants -/
structure TC (K : PySem.W.Frag) (mg : Str → Option Value) : Prop where
  nothing : ∃ a, mg "NOTHING" = some (.ref a) ∧ ∀ H : Hp, SqT K H a (frac 0)
  most : ∃ t, mg "MOST" = some (.int 1000 t)
  full : ∃ t, mg "FULL" = some (.int 64 t)
  hushed : ∃ t, mg "HUSHED" = some (.str "hushed" t)
  rising : ∃ t, mg "RISING" = some (.str "rising" t)
  on : ∃ t, mg "ON" = some (.str "on" t)
  falling : ∃ t, mg "FALLING" = some (.str "falling" t)
theorem isQ0 {K : PySem.W.Frag} {H : Hp} {a : Addr} (h : ∀ H : Hp, SqT K H a (frac 0)) : IsQ K H (.ref a) 0 := ⟨a, rfl, .inr h⟩
theorem isQ_of {K : PySem.W.Frag} {H : Hp} {p : Addr} {q : Rat} (h : H p = some (.tup (frac q))) : IsQ K H (.ref p) q := ⟨p, rfl, .inl h⟩
set_option hygiene false in
local macro_rules | `(tactic| walk_at "rd") => `(tactic| try simp only [L2.start, List.map_cons, List.map_nil, List.length_cons, List.length_nil, Nat.reduceAdd, Nat.reduceSub, Nat.reduceLT, Nat.reduceLeDiff, List.replicate_succ, List.replicate_zero, List.append_nil, List.nil_append, List.cons_append, List.set_cons_zero, List.set_cons_succ, List.getElem?_cons_zero, List.getElem?_cons_succ,
  Option.some.injEq, List.cons.injEq, and_true, true_and, and_assoc, reduceCtorEq, L2.V.int.injEq, L2.V.ref.injEq, L2.V.bl.injEq, L2.V.str.injEq, L2.V.ty.injEq, L2.HO.ins.injEq, L2.HO.lst.injEq, L2.HO.tup.injEq, L2.HO.dK.injEq, exists_eq_left', exists_eq_left, exists_eq_right, exists_eq', exists_eq, exists_and_left, exists_and_right, reduceIte, Bool.false_eq_true, Bool.not_true, Bool.not_false,
  L2.tSeq, L2.tIfS, L2.tRet, L2.tRetN, L2.tNext, L2.tAsg, L2.gName, L2.tVar, L2.tC, L2.tCons, L2.tNil, L2.tCB, L2.tOp, L2.tUn, L2.tTup, L2.tLst, L2.tB, L2.tOr, L2.tAnd, L2.tNot, L2.tAndV, L2.tOrV, L2.tNotV, L2.tIf, L2.tTest, L2.tChain, L2.rI, L2.rI0, L2.rU, L2.tDrop, L2.tNever, L2.tCall, L2.tMeth, L2.tMake, L2.rGcd, L2.tFld, L2.sFld, L2.sFldAug, Mx.sFldA, Mx.sFldAugA, L2.rAdd, L2.rSub, L2.rEq, L2.rNe, L2.tDGet, L2.tDIn, L2.tDNotIn, L2.sDPut,
  Mx.isi_int_bool, Mx.isi_int_int, Mx.isi_int_tuple, Mx.isi_int_list, Mx.isi_int_str, Mx.scal_int, Mx.scal_str, Mx.scal_bl, Mx.ofString_inj, Mx.ofString_beq, Mx.lk_cons, Mx.pf_nil, Mx.pf_cons, Mx.sz1, Mx.sz2, List.lookup_nil, String.reduceEq, decide_true, decide_false, decide_eq_true_eq, Int.natAbs_natCast, L2.upd_same, L2.upd_upd, L2.cxOf, Mx.fsD])
set_option hygiene false in
local macro_rules | `(tactic| walk_at "rds") => `(tactic| try simp only [L2.start, List.map_cons, List.map_nil, List.length_cons, List.length_nil, Nat.reduceAdd, Nat.reduceSub, Nat.reduceLT, Nat.reduceLeDiff, List.replicate_succ, List.replicate_zero, List.append_nil, List.nil_append, List.cons_append, List.set_cons_zero, List.set_cons_succ, List.getElem?_cons_zero, List.getElem?_cons_succ,
  Option.some.injEq, List.cons.injEq, and_true, true_and, and_assoc, reduceCtorEq, L2.V.int.injEq, L2.V.ref.injEq, L2.V.bl.injEq, L2.V.str.injEq, L2.V.ty.injEq, L2.HO.ins.injEq, L2.HO.lst.injEq, L2.HO.tup.injEq, L2.HO.dK.injEq, exists_eq_left', exists_eq_left, exists_eq_right, exists_eq', exists_eq, exists_and_left, exists_and_right, reduceIte, Bool.false_eq_true, Bool.not_true, Bool.not_false,
  L2.tSeq, L2.tIfS, L2.tRet, L2.tRetN, L2.tNext, L2.tAsg, L2.gName, L2.tVar, L2.tC, L2.tCons, L2.tNil, L2.tCB, L2.tOp, L2.tUn, L2.tTup, L2.tLst, L2.tB, L2.tOr, L2.tAnd, L2.tNot, L2.tAndV, L2.tOrV, L2.tNotV, L2.tIf, L2.tTest, L2.tChain, L2.rI, L2.rI0, L2.rU, L2.tDrop, L2.tNever, L2.tCall, L2.tMeth, L2.tMake, L2.rGcd, L2.tFld, L2.sFld, L2.sFldAug, Mx.sFldA, Mx.sFldAugA, L2.rAdd, L2.rSub, L2.rEq, L2.rNe, L2.tDGet, L2.tDIn, L2.tDNotIn, L2.sDPut,
  Mx.isi_int_bool, Mx.isi_int_int, Mx.isi_int_tuple, Mx.isi_int_list, Mx.isi_int_str, Mx.scal_int, Mx.scal_str, Mx.scal_bl, Mx.ofString_inj, Mx.ofString_beq, Mx.lk_cons, Mx.pf_nil, Mx.pf_cons, Mx.sz1, Mx.sz2, List.lookup_nil, String.reduceEq, decide_true, decide_false, decide_eq_true_eq, Int.natAbs_natCast, L2.upd_same, L2.upd_upd, L2.cxOf, Mx.fsD, *])

section
variable {P : Program} {w : World} {K : PySem.W.Frag} {mg : Str → Option Value} {base : Heap} {C : Addr}
def sp_Loudness_init (K : PySem.W.Frag) (C : Addr) : Sp := fun vs H Q _ => ∃ (q dx : Addr) (n : Int), vs = [.ref q, .int n] ∧ H q = some (.ins C dx []) ∧ ∀ H', LoudAt K C H' q ⟨mkRat n 64, 0, 0⟩ → Stp [q] H H' → Q .non H'
theorem sc_Loudness_init : FnScope ["self", "loudness"] ["self", "loudness"] (defScope s_Loudness_init) := ⟨rfl, rfl, rfl, by decide +kernel, rfl, by decide +kernel, by decide +kernel⟩
theorem ok_Loudness_init {f : Addr} {fd : FuncData} (F : Fun K "__init__" "Loudness.__init__" s_Loudness_init f fd) (T : TD K C) (TT : TC K mg) (GR : OwnF P w K mg base "ratio" 1 ["top", "bottom"] sp_ratio) : FnOk P w K mg base CX0 2 f fd ["self", "loudness"] (sp_Loudness_init K C) := by
  refine F.ok sc_Loudness_init (fun vs H Q E h => ?_) (fun cdv A outer s H vs Q E hr h => ?_)
  · obtain ⟨q, dx, n, rfl, _⟩ := h
    rfl
  · obtain ⟨q, dx, n, rfl, hq, k⟩ := h
    obtain ⟨cl, a1, a2, a3⟩ := T
    obtain ⟨aN, hN, hN2⟩ := TT.nothing
    obtain ⟨tF, hF⟩ := TT.full
    refine ⟨_, pss_cons (ps_fldA (pv 0) (p_call GR hr (pa_cons (pv 1) (pa_cons (pe_glob (v := .int 64) (by rfl) hF ⟨_, rfl⟩) pa_nil))) rfl)
      (pss_cons (ps_fldA (pv 0) (pe_glob (v := .ref aN) (by rfl) hN rfl) rfl) (pss_one (ps_fldA (pv 0) pe_int rfl))), ?_⟩
    walk_at "rds"
    refine ⟨n, 64, rfl, by decide, Nat.pow_lt_pow_right (by decide) (show 7 < 9000 by decide) |> Nat.lt_trans (by decide), fun p H1 hp s1 l1 => ?_⟩
    have h1 := s1.keep _ _ hq (by simp)
    walk_at "rds"
    intro H2 h2 s2
    walk_at "rds"
    intro H3 h3 s3
    walk_at "rds"
    intro H4 h4 s4
    have s34 := s3.trans s4
    exact k _ ⟨dx, _, _, h4, (isQ_of l1).st (s2.trans s34), isQ0 hN2⟩ ((s1.trans (s2.trans s34)).sub (by simp))
def sp_Loudness_lead_on (K : PySem.W.Frag) (C : Addr) : Sp := fun vs H Q _ => ∃ (q : Addr) (s : LoudS) (d : Nat), vs = [.ref q] ∧ LoudAt K C H q s ∧ LoudOk d s ∧ 0 < d ∧ 2 * d < 9000 ∧ ∀ H', LoudAt K C H' q s.on → Stp [q] H H' → Q .non H'
theorem sc_Loudness_lead_on : FnScope ["self"] ["self"] (defScope s_Loudness_lead_on) := ⟨rfl, rfl, rfl, by decide +kernel, rfl, by decide +kernel, by decide +kernel⟩
theorem ok_Loudness_lead_on {f : Addr} {fd : FuncData} (F : Fun K "lead_on" "Loudness.lead_on" s_Loudness_lead_on f fd) (T : TD K C) (GP : OwnF P w K mg base "plus" 2 ["one", "other"] (sp_two (· + ·) K)) : FnOk P w K mg base CX0 3 f fd ["self"] (sp_Loudness_lead_on K C) := by
  refine F.ok sc_Loudness_lead_on (fun vs H Q E h => ?_) (fun cdv A outer s H vs Q E hr h => ?_)
  · obtain ⟨q, s, d, rfl, _⟩ := h
    rfl
  · obtain ⟨q, s, d, rfl, hq, hO, hd0, hd, k⟩ := h
    obtain ⟨cl, a1, a2, a3⟩ := T
    obtain ⟨dx, lv, st, h1, h2, h3⟩ := id hq
    refine ⟨_, pss_one (ps_if (pt_cmpR op_gt (pe_fld (pv 0) rfl) pe_int (nomark _)) (pss_cons (ps_fldA (pv 0) (p_call GP hr (pa_cons (pe_fld (pv 0) rfl) (pa_cons (pe_fld (pv 0) rfl) pa_nil))) rfl) (pss_one (ps_fldaugA (pv 0) pe_int in_sub))) pss_nil), ?_⟩
    obtain ⟨a, rfl, h2'⟩ := h2
    obtain ⟨b, rfl, h3'⟩ := h3
    obtain ⟨D, x, y, hI, hD⟩ := hO
    obtain ⟨r1, r2⟩ := hI.rb hD
    unfold LoudS.on at k
    walk_at "rds"
    by_cases hl : 0 < s.left
    · rw [if_pos hl] at k ⊢
      refine ⟨a, b, s.level, s.stride, d, d, rfl, h2', h3', r1, r2, by omega, hd0, hd0, fun p H1 hp s1 l1 => ?_⟩
      have g1 := s1.keep _ _ h1 (by simp)
      walk_at "rds"
      intro H2 g2 s2
      walk_at "rds"
      intro H3 g3 s3
      have s23 := s2.trans s3
      exact k _ ⟨dx, _, _, g3, (isQ_of l1).st s23, ⟨b, rfl, (h3'.st s1).st s23⟩⟩ ((s1.trans s23).sub (by simp))
    · rw [if_neg hl] at k ⊢
      exact k H hq (Stp.refl.sub (by simp))
end
/-! ### one voice -/
structure VoiceS where
  line : LineS
  loud : LoudS
  heard : Bool
  word : Str
  steps : Int
  part : Rat
  height : Rat
abbrev wH : Str := "hushed"
abbrev wR : Str := "rising"
abbrev wO : Str := "on"
abbrev wF : Str := "falling"
def VoiceS.fall (v : VoiceS) (soft : Int) : VoiceS := { v with steps := v.steps + 1, part := v.height * mkRat (soft - (v.steps + 1)) soft.toNat, word := if v.steps + 1 = soft then wH else v.word }
def VoiceS.rise (v : VoiceS) (whole : Rat) (soft : Int) : VoiceS := { v with steps := v.steps + 1, part := whole * mkRat (v.steps + 1) soft.toNat, word := if v.steps + 1 = soft then wO else v.word }
def VoiceS.sound (v : VoiceS) (whole : Rat) (soft : Int) : VoiceS := if v.word = wO then { v with part := whole } else (if v.word = wH then { v with word := wR, steps := 0 } else v).rise whole soft
def VoiceS.beginFall (v : VoiceS) (soft : Int) : VoiceS := VoiceS.fall { v with word := wF, steps := 0, height := v.part } soft
def VoiceS.may (v : VoiceS) (t : Int) : Bool := v.heard && v.line.ready t
def VoiceS.give (v : VoiceS) (t soft : Int) : VoiceS :=
  let u : VoiceS := { v with loud := v.loud.on }
  if v.word = wF then u.fall soft else if v.may t = true then u.sound (v.line.value t * v.loud.on.level) soft else if v.word = wH then u else u.beginFall soft
def fsV (l q : Addr) (v : VoiceS) (pv hv : V) : List (Str × V) := [("line", .ref l), ("loudness", .ref q), ("heard", .bl v.heard), ("state", .str v.word), ("steps", .int v.steps), ("part", pv), ("height", hv)]
/-- the voice's own object -/
def VObj (K : PySem.W.Frag) (C : Addr) (H : Hp) (a l q : Addr) (v : VoiceS) : Prop := ∃ dx pv hv, H a = some (.ins C dx (fsV l q v pv hv)) ∧ IsQ K H pv v.part ∧ IsQ K H hv v.height
theorem VObj.st {K : PySem.W.Frag} {C : Addr} {F : List Addr} {H H' : Hp} {a l q : Addr} {v : VoiceS} (h : VObj K C H a l q v) (k : Stp F H H') (n : a ∉ F) : VObj K C H' a l q v := by
  obtain ⟨dx, pv, hv, h1, h2, h3⟩ := h
  exact ⟨dx, pv, hv, k.keep _ _ h1 n, h2.st k, h3.st k⟩
structure TV (K : PySem.W.Frag) (C : Addr) : Prop where
  cl : Cls K C
  a1 : NoAttr K C "line"
  a2 : NoAttr K C "loudness"
  a3 : NoAttr K C "heard"
  a4 : NoAttr K C "state"
  a5 : NoAttr K C "steps"
  a6 : NoAttr K C "part"
  a7 : NoAttr K C "height"
theorem p9000 {n m : Nat} (h : n < 2 ^ m) (l : m < 9000) : n < 2 ^ 9000 := Nat.lt_of_lt_of_le h (Nat.pow_le_pow_right (by decide) (Nat.le_of_lt l))
theorem ratioOk {k soft : Int} (h0 : 0 ≤ k) (h1 : k ≤ soft) (h2 : 1 ≤ soft) (h3 : soft ≤ 16) : Rb 5 (mkRat k soft.toNat) := Rb.of (by omega) (by omega) (by omega)
set_option hygiene false in
local macro_rules | `(tactic| walk_at "rd") => `(tactic| try simp only [L2.start, List.map_cons, List.map_nil, List.length_cons, List.length_nil, Nat.reduceAdd, Nat.reduceSub, Nat.reduceLT, Nat.reduceLeDiff, List.replicate_succ, List.replicate_zero, List.append_nil, List.nil_append, List.cons_append, List.set_cons_zero, List.set_cons_succ, List.getElem?_cons_zero, List.getElem?_cons_succ,
  Option.some.injEq, List.cons.injEq, and_true, true_and, and_assoc, reduceCtorEq, L2.V.int.injEq, L2.V.ref.injEq, L2.V.bl.injEq, L2.V.str.injEq, L2.V.ty.injEq, L2.HO.ins.injEq, L2.HO.lst.injEq, L2.HO.tup.injEq, L2.HO.dK.injEq, exists_eq_left', exists_eq_left, exists_eq_right, exists_eq', exists_eq, exists_and_left, exists_and_right, reduceIte, Bool.false_eq_true, Bool.not_true, Bool.not_false,
  L2.tSeq, L2.tIfS, L2.tRet, L2.tRetN, L2.tNext, L2.tAsg, L2.gName, L2.tVar, L2.tC, L2.tCons, L2.tNil, L2.tCB, L2.tOp, L2.tUn, L2.tTup, L2.tLst, L2.tB, L2.tOr, L2.tAnd, L2.tNot, L2.tAndV, L2.tOrV, L2.tNotV, L2.tIf, L2.tTest, L2.tChain, L2.rI, L2.rI0, L2.rU, L2.tDrop, L2.tNever, L2.tCall, L2.tMeth, L2.tMake, L2.rGcd, L2.tFld, L2.sFld, L2.sFldAug, Mx.sFldA, Mx.sFldAugA, L2.rAdd, L2.rSub, L2.rEq, L2.rNe, L2.tDGet, L2.tDIn, L2.tDNotIn, L2.sDPut,
  Mx.isi_int_bool, Mx.isi_int_int, Mx.isi_int_tuple, Mx.isi_int_list, Mx.isi_int_str, Mx.scal_int, Mx.scal_str, Mx.scal_bl, Mx.ofString_inj, Mx.ofString_beq, Mx.lk_cons, Mx.pf_nil, Mx.pf_cons, Mx.sz1, Mx.sz2, List.lookup_nil, String.reduceEq, decide_true, decide_false, decide_eq_true_eq, Int.natAbs_natCast, L2.upd_same, L2.upd_upd, L2.cxOf, Mx.fsV])
set_option hygiene false in
local macro_rules | `(tactic| walk_at "rds") => `(tactic| try simp only [L2.start, List.map_cons, List.map_nil, List.length_cons, List.length_nil, Nat.reduceAdd, Nat.reduceSub, Nat.reduceLT, Nat.reduceLeDiff, List.replicate_succ, List.replicate_zero, List.append_nil, List.nil_append, List.cons_append, List.set_cons_zero, List.set_cons_succ, List.getElem?_cons_zero, List.getElem?_cons_succ,
  Option.some.injEq, List.cons.injEq, and_true, true_and, and_assoc, reduceCtorEq, L2.V.int.injEq, L2.V.ref.injEq, L2.V.bl.injEq, L2.V.str.injEq, L2.V.ty.injEq, L2.HO.ins.injEq, L2.HO.lst.injEq, L2.HO.tup.injEq, L2.HO.dK.injEq, exists_eq_left', exists_eq_left, exists_eq_right, exists_eq', exists_eq, exists_and_left, exists_and_right, reduceIte, Bool.false_eq_true, Bool.not_true, Bool.not_false,
  L2.tSeq, L2.tIfS, L2.tRet, L2.tRetN, L2.tNext, L2.tAsg, L2.gName, L2.tVar, L2.tC, L2.tCons, L2.tNil, L2.tCB, L2.tOp, L2.tUn, L2.tTup, L2.tLst, L2.tB, L2.tOr, L2.tAnd, L2.tNot, L2.tAndV, L2.tOrV, L2.tNotV, L2.tIf, L2.tTest, L2.tChain, L2.rI, L2.rI0, L2.rU, L2.tDrop, L2.tNever, L2.tCall, L2.tMeth, L2.tMake, L2.rGcd, L2.tFld, L2.sFld, L2.sFldAug, Mx.sFldA, Mx.sFldAugA, L2.rAdd, L2.rSub, L2.rEq, L2.rNe, L2.tDGet, L2.tDIn, L2.tDNotIn, L2.sDPut,
  Mx.isi_int_bool, Mx.isi_int_int, Mx.isi_int_tuple, Mx.isi_int_list, Mx.isi_int_str, Mx.scal_int, Mx.scal_str, Mx.scal_bl, Mx.ofString_inj, Mx.ofString_beq, Mx.lk_cons, Mx.pf_nil, Mx.pf_cons, Mx.sz1, Mx.sz2, List.lookup_nil, String.reduceEq, decide_true, decide_false, decide_eq_true_eq, Int.natAbs_natCast, L2.upd_same, L2.upd_upd, L2.cxOf, Mx.fsV, *])

section
variable {P : Program} {w : World} {K : PySem.W.Frag} {mg : Str → Option Value} {base : Heap} {C : Addr}
def sp_Voice_fall (K : PySem.W.Frag) (C : Addr) : Sp := fun vs H Q _ => ∃ (a l q : Addr) (v : VoiceS) (soft : Int) (n : Nat), vs = [.ref a, .int soft] ∧ VObj K C H a l q v ∧ 1 ≤ soft ∧ soft ≤ 16 ∧ 0 ≤ v.steps ∧ v.steps < soft ∧ Rb n v.height ∧ 0 < n ∧ n < 8900 ∧
  ∀ H', VObj K C H' a l q (v.fall soft) → Stp [a] H H' → Q .non H'
theorem sc_Voice_fall : FnScope ["self", "soft"] ["self", "soft"] (defScope s_Voice_fall) := ⟨rfl, rfl, rfl, by decide +kernel, rfl, by decide +kernel, by decide +kernel⟩
theorem ok_Voice_fall {f : Addr} {fd : FuncData} (F : Fun K "fall" "Voice.fall" s_Voice_fall f fd) (T : TV K C) (TT : TC K mg) (GR : OwnF P w K mg base "ratio" 1 ["top", "bottom"] sp_ratio) (GT : OwnF P w K mg base "times" 2 ["one", "other"] (sp_two (· * ·) K)) :
    FnOk P w K mg base CX0 3 f fd ["self", "soft"] (sp_Voice_fall K C) := by
  refine F.ok sc_Voice_fall (fun vs H Q E h => ?_) (fun cdv A outer s H vs Q E hr h => ?_)
  · obtain ⟨a, l, q, v, soft, n, rfl, _⟩ := h
    rfl
  · obtain ⟨a, l, q, v, soft, n, rfl, hV, hs1, hs2, hk0, hk1, hb, hn0, hn1, k⟩ := h
    obtain ⟨tH, hH⟩ := TT.hushed
    refine ⟨_, pss_cons (ps_fldaugA (pv 0) pe_int in_add)
      (pss_cons (ps_fldA (pv 0) (p_call GT hr (pa_cons (pe_fld (pv 0) rfl) (pa_cons (p_call GR (hr.mono (by decide)) (pa_cons (pe_op op_sub (pv 1) (pe_fld (pv 0) rfl)) (pa_cons (pv 1) pa_nil))) pa_nil))) rfl)
      (pss_one (ps_if (pt_cmpR op_eq (pe_fld (pv 0) rfl) (pv 1) (nomark _)) (pss_one (ps_fldA (pv 0) (pe_glob (v := .str "hushed") (by rfl) hH ⟨_, rfl⟩) rfl)) pss_nil))), ?_⟩
    obtain ⟨cl, a1, a2, a3, a4, a5, a6, a7⟩ := T
    obtain ⟨dx, pv, hv, h1, h2, h3⟩ := hV
    obtain ⟨ah, rfl, h3'⟩ := h3
    walk_at "rds"
    intro H1 g1 s1
    walk_at "rds"
    refine ⟨_, _, rfl, by omega, p9000 (show soft.natAbs < 2 ^ 5 by omega) (by decide), fun p H2 hp s2 l2 => ?_⟩
    have g2 := s2.keep _ _ g1 (by simp)
    refine ⟨ah, p, v.height, mkRat (soft - (v.steps + 1)) soft.toNat, n, 5, rfl, (h3'.st s1).st s2, .inl l2, hb, ratioOk (by omega) (by omega) hs1 hs2, by omega, hn0, by decide, fun r H3 hr' s3 l3 => ?_⟩
    have g3 := s3.keep _ _ g2 (by simp)
    walk_at "rds"
    intro H4 g4 s4
    have t4 := (s1.trans (s2.trans s3)).trans s4
    walk_at "rds"
    unfold VoiceS.fall at k
    by_cases e : v.steps + 1 = soft
    · rw [if_pos e] at k ⊢
      intro H5 g5 s5
      exact k _ ⟨dx, _, _, g5, (isQ_of l3).st (s4.trans s5), ⟨ah, rfl, h3'.st (t4.trans s5)⟩⟩ ((t4.trans s5).sub (by simp))
    · rw [if_neg e] at k ⊢
      exact k _ ⟨dx, _, _, g4, (isQ_of l3).st s4, ⟨ah, rfl, h3'.st t4⟩⟩ (t4.sub (by simp))

def sp_Voice_rise (K : PySem.W.Frag) (C : Addr) : Sp := fun vs H Q _ => ∃ (a l q : Addr) (v : VoiceS) (wv : V) (x : Rat) (soft : Int) (n : Nat), vs = [.ref a, wv, .int soft] ∧ VObj K C H a l q v ∧ IsQ K H wv x ∧ 1 ≤ soft ∧ soft ≤ 16 ∧ 0 ≤ v.steps ∧ v.steps < soft ∧ Rb n x ∧ 0 < n ∧ n < 8900 ∧
  ∀ H', VObj K C H' a l q (v.rise x soft) → Stp [a] H H' → Q .non H'
theorem sc_Voice_rise : FnScope ["self", "whole", "soft"] ["self", "whole", "soft"] (defScope s_Voice_rise) := ⟨rfl, rfl, rfl, by decide +kernel, rfl, by decide +kernel, by decide +kernel⟩
theorem ok_Voice_rise {f : Addr} {fd : FuncData} (F : Fun K "rise" "Voice.rise" s_Voice_rise f fd) (T : TV K C) (TT : TC K mg) (GR : OwnF P w K mg base "ratio" 1 ["top", "bottom"] sp_ratio) (GT : OwnF P w K mg base "times" 2 ["one", "other"] (sp_two (· * ·) K)) :
    FnOk P w K mg base CX0 3 f fd ["self", "whole", "soft"] (sp_Voice_rise K C) := by
  refine F.ok sc_Voice_rise (fun vs H Q E h => ?_) (fun cdv A outer s H vs Q E hr h => ?_)
  · obtain ⟨a, l, q, v, wv, x, soft, n, rfl, _⟩ := h
    rfl
  · obtain ⟨a, l, q, v, wv, x, soft, n, rfl, hV, hW, hs1, hs2, hk0, hk1, hb, hn0, hn1, k⟩ := h
    obtain ⟨tO, hO⟩ := TT.on
    refine ⟨_, pss_cons (ps_fldaugA (pv 0) pe_int in_add)
      (pss_cons (ps_fldA (pv 0) (p_call GT hr (pa_cons (pv 1) (pa_cons (p_call GR (hr.mono (by decide)) (pa_cons (pe_fld (pv 0) rfl) (pa_cons (pv 2) pa_nil))) pa_nil))) rfl)
      (pss_one (ps_if (pt_cmpR op_eq (pe_fld (pv 0) rfl) (pv 2) (nomark _)) (pss_one (ps_fldA (pv 0) (pe_glob (v := .str "on") (by rfl) hO ⟨_, rfl⟩) rfl)) pss_nil))), ?_⟩
    obtain ⟨cl, a1, a2, a3, a4, a5, a6, a7⟩ := T
    obtain ⟨dx, pv, hv, h1, h2, h3⟩ := hV
    obtain ⟨aw, rfl, hW'⟩ := hW
    walk_at "rds"
    intro H1 g1 s1
    walk_at "rds"
    refine ⟨_, _, rfl, by omega, p9000 (show soft.natAbs < 2 ^ 5 by omega) (by decide), fun p H2 hp s2 l2 => ?_⟩
    have g2 := s2.keep _ _ g1 (by simp)
    refine ⟨aw, p, x, mkRat (v.steps + 1) soft.toNat, n, 5, rfl, (hW'.st s1).st s2, .inl l2, hb, ratioOk (by omega) (by omega) hs1 hs2, by omega, hn0, by decide, fun r H3 hr' s3 l3 => ?_⟩
    have g3 := s3.keep _ _ g2 (by simp)
    walk_at "rds"
    intro H4 g4 s4
    have t4 := (s1.trans (s2.trans s3)).trans s4
    walk_at "rds"
    unfold VoiceS.rise at k
    by_cases e : v.steps + 1 = soft
    · rw [if_pos e] at k ⊢
      intro H5 g5 s5
      exact k _ ⟨dx, _, _, g5, (isQ_of l3).st (s4.trans s5), h3.st (t4.trans s5)⟩ ((t4.trans s5).sub (by simp))
    · rw [if_neg e] at k ⊢
      exact k _ ⟨dx, _, _, g4, (isQ_of l3).st s4, h3.st t4⟩ (t4.sub (by simp))

theorem sc_Voice_begin_fall : FnScope ["self", "soft"] ["self", "soft"] (defScope s_Voice_begin_fall) := ⟨rfl, rfl, rfl, by decide +kernel, rfl, by decide +kernel, by decide +kernel⟩
def sp_Voice_begin_fall (K : PySem.W.Frag) (C : Addr) : Sp := fun vs H Q _ => ∃ (a l q : Addr) (v : VoiceS) (soft : Int) (n : Nat), vs = [.ref a, .int soft] ∧ VObj K C H a l q v ∧ 1 ≤ soft ∧ soft ≤ 16 ∧ Rb n v.part ∧ 0 < n ∧ n < 8900 ∧
  ∀ H', VObj K C H' a l q (v.beginFall soft) → Stp [a] H H' → Q .non H'
theorem ok_Voice_begin_fall {f : Addr} {fd : FuncData} (F : Fun K "begin_fall" "Voice.begin_fall" s_Voice_begin_fall f fd) (T : TV K C) (TT : TC K mg) (GF : OwnM P w K mg base C "fall" 3 ["self", "soft"] (sp_Voice_fall K C)) :
    FnOk P w K mg base CX0 4 f fd ["self", "soft"] (sp_Voice_begin_fall K C) := by
  refine F.ok sc_Voice_begin_fall (fun vs H Q E h => ?_) (fun cdv A outer s H vs Q E hr h => ?_)
  · obtain ⟨a, l, q, v, soft, n, rfl, _⟩ := h
    rfl
  · obtain ⟨a, l, q, v, soft, n, rfl, hV, hs1, hs2, hb, hn0, hn1, k⟩ := h
    obtain ⟨tF, hF⟩ := TT.falling
    refine ⟨_, pss_cons (ps_fldA (pv 0) (pe_glob (v := .str "falling") (by rfl) hF ⟨_, rfl⟩) rfl) (pss_cons (ps_fldA (pv 0) pe_int rfl) (pss_cons (ps_fldA (pv 0) (pe_fld (pv 0) rfl) rfl)
      (pss_one (ps_expr (p_meth GF hr (pv 0) (pa_cons (pv 1) pa_nil)))))), ?_⟩
    obtain ⟨cl, a1, a2, a3, a4, a5, a6, a7⟩ := T
    obtain ⟨dx, pv, hv, h1, h2, h3⟩ := hV
    walk_at "rds"
    intro H1 g1 s1
    walk_at "rds"
    intro H2 g2 s2
    walk_at "rds"
    intro H3 g3 s3
    have t3 := s1.trans (s2.trans s3)
    walk_at "rds"
    refine ⟨a, l, q, { v with word := wF, steps := 0, height := v.part }, soft, n, rfl, ⟨dx, _, _, g3, h2.st t3, h2.st t3⟩, hs1, hs2, by show (0 : Int) ≤ 0; decide, by show (0 : Int) < soft; omega, hb, hn0, hn1, fun H4 g4 s4 => ?_⟩
    exact k _ g4 ((t3.trans s4).sub (by simp))

theorem sc_Voice_sound : FnScope ["self", "whole", "soft"] ["self", "whole", "soft"] (defScope s_Voice_sound) := ⟨rfl, rfl, rfl, by decide +kernel, rfl, by decide +kernel, by decide +kernel⟩
def sp_Voice_sound (K : PySem.W.Frag) (C : Addr) : Sp := fun vs H Q _ => ∃ (a l q : Addr) (v : VoiceS) (wv : V) (x : Rat) (soft : Int) (n : Nat), vs = [.ref a, wv, .int soft] ∧ VObj K C H a l q v ∧ IsQ K H wv x ∧ 1 ≤ soft ∧ soft ≤ 16 ∧ (v.word = wR → 0 ≤ v.steps ∧ v.steps < soft) ∧ (v.word = wH ∨ v.word = wR ∨ v.word = wO) ∧ Rb n x ∧ 0 < n ∧ n < 8900 ∧
  ∀ H', VObj K C H' a l q (v.sound x soft) → Stp [a] H H' → Q .non H'
theorem ok_Voice_sound {f : Addr} {fd : FuncData} (F : Fun K "sound" "Voice.sound" s_Voice_sound f fd) (T : TV K C) (TT : TC K mg) (GR : OwnM P w K mg base C "rise" 3 ["self", "whole", "soft"] (sp_Voice_rise K C)) :
    FnOk P w K mg base CX0 4 f fd ["self", "whole", "soft"] (sp_Voice_sound K C) := by
  refine F.ok sc_Voice_sound (fun vs H Q E h => ?_) (fun cdv A outer s H vs Q E hr h => ?_)
  · obtain ⟨a, l, q, v, wv, x, soft, n, rfl, _⟩ := h
    rfl
  · obtain ⟨a, l, q, v, wv, x, soft, n, rfl, hV, hW, hs1, hs2, hk, hww, hb, hn0, hn1, k⟩ := h
    obtain ⟨tH, hH⟩ := TT.hushed
    obtain ⟨tR, hR⟩ := TT.rising
    obtain ⟨tO, hO⟩ := TT.on
    refine ⟨_, pss_cons (ps_if (pt_cmpR op_eq (pe_fld (pv 0) rfl) (pe_glob (v := .str "on") (by rfl) hO ⟨_, rfl⟩) (nomark _)) (pss_cons (ps_fldA (pv 0) (pv 1) rfl) (pss_one ps_retN)) pss_nil)
      (pss_cons (ps_if (pt_cmpR op_eq (pe_fld (pv 0) rfl) (pe_glob (v := .str "hushed") (by rfl) hH ⟨_, rfl⟩) (nomark _)) (pss_cons (ps_fldA (pv 0) (pe_glob (v := .str "rising") (by rfl) hR ⟨_, rfl⟩) rfl) (pss_one (ps_fldA (pv 0) pe_int rfl))) pss_nil)
      (pss_one (ps_expr (p_meth GR hr (pv 0) (pa_cons (pv 1) (pa_cons (pv 2) pa_nil)))))), ?_⟩
    obtain ⟨cl, a1, a2, a3, a4, a5, a6, a7⟩ := T
    obtain ⟨dx, pv, hv, h1, h2, h3⟩ := id hV
    obtain ⟨aw, rfl, hW'⟩ := id hW
    unfold VoiceS.sound at k
    rcases hww with e | e | e
    · rw [e] at k
      walk_at "rds"
      simp only [wH, wO, wR, ofString_inj, String.reduceEq, reduceIte] at k ⊢
      intro H1 g1 s1
      walk_at "rds"
      intro H2 g2 s2
      have t2 := s1.trans s2
      walk_at "rds"
      refine ⟨a, l, q, { v with word := wR, steps := 0 }, _, x, soft, n, rfl, ⟨dx, _, _, g2, h2.st t2, h3.st t2⟩, hW.st t2, hs1, hs2, by show (0 : Int) ≤ 0; decide, by show (0 : Int) < soft; omega, hb, hn0, hn1, fun H4 g4 s4 => ?_⟩
      exact k _ g4 ((t2.trans s4).sub (by simp))
    · rw [e] at k
      have ⟨q0, q1⟩ := hk e
      walk_at "rds"
      simp only [wH, wO, wR, ofString_inj, String.reduceEq, reduceIte] at k ⊢
      exact ⟨a, l, q, v, _, x, soft, n, rfl, hV, hW, hs1, hs2, q0, q1, hb, hn0, hn1, fun H4 g4 s4 => k _ g4 (s4.sub (by simp))⟩
    · rw [e] at k
      walk_at "rds"
      simp only [wH, wO, wR, ofString_inj, String.reduceEq, reduceIte] at k ⊢
      intro H1 g1 s1
      exact k _ ⟨dx, _, _, g1, hW.st s1, h3.st s1⟩ (s1.sub (by simp))
end
end Mx

namespace Mx
open PySem L2
/-- the classes -/
structure Cs where
  L : Addr
  D : Addr
  V : Addr
  M : Addr
/-- a voice's objects -/
structure VA where
  a : Addr
  l : Addr
  c : Addr
  q : Addr
def VA.foot (A : VA) : List Addr := [A.a, A.l, A.c, A.q]
structure VoiceAt (K : PySem.W.Frag) (cs : Cs) (H : Hp) (A : VA) (v : VoiceS) : Prop where
  ob : VObj K cs.V H A.a A.l A.q v
  line : LineAt cs.L H A.l A.c v.line
  loud : LoudAt K cs.D H A.q v.loud
  nd : A.foot.Nodup
theorem VoiceAt.st {K : PySem.W.Frag} {cs : Cs} {F : List Addr} {H H' : Hp} {A : VA} {v : VoiceS} (h : VoiceAt K cs H A v) (k : Stp F H H') (n : ∀ b ∈ A.foot, b ∉ F) : VoiceAt K cs H' A v :=
  ⟨h.ob.st k (n _ (by simp [VA.foot])), h.line.st k (n _ (by simp [VA.foot])) (n _ (by simp [VA.foot])), h.loud.st k (n _ (by simp [VA.foot])), h.nd⟩
theorem VoiceAt.st0 {K : PySem.W.Frag} {cs : Cs} {H H' : Hp} {A : VA} {v : VoiceS} (h : VoiceAt K cs H A v) (k : Stp [] H H') : VoiceAt K cs H' A v := h.st k (by simp)
theorem VoiceAt.some {K : PySem.W.Frag} {cs : Cs} {H : Hp} {A : VA} {v : VoiceS} (h : VoiceAt K cs H A v) : ∀ b ∈ A.foot, H b ≠ none := by
  obtain ⟨⟨dx, pv, hv, h1, _⟩, ⟨⟨dy, tp, h2, _⟩, h3⟩, ⟨dz, lv, st, h4, _⟩, _⟩ := h
  intro b hb
  simp only [VA.foot, List.mem_cons, List.not_mem_nil, or_false] at hb
  rcases hb with e | e | e | e <;> subst e
  · rw [h1]; exact fun z => nomatch z
  · rw [h2]; exact fun z => nomatch z
  · rw [h3]; exact fun z => nomatch z
  · rw [h4]; exact fun z => nomatch z
/-- what goes well with a voice: so many bits, this soft -/
structure VoiceOk (d : Nat) (soft : Int) (v : VoiceS) : Prop where
  line : LineOk v.line
  loud : LoudOk d v.loud
  word : v.word = wH ∨ v.word = wR ∨ v.word = wO ∨ v.word = wF
  stR : v.word = wR → 0 ≤ v.steps ∧ v.steps < soft
  stF : v.word = wF → 0 ≤ v.steps ∧ v.steps < soft
  part : Rb (d + 24) v.part
  partS : v.word = wR ∨ v.word = wO → Rb (d + 19) v.part
  height : v.word = wF → Rb (d + 19) v.height
theorem Rb.mul {n m : Nat} {q r : Rat} (h : Rb n q) (k : Rb m r) : Rb (n + m) (q * r) := by
  rw [← mul_mk]
  have e : 2 ^ n * 2 ^ m = 2 ^ (n + m) := (Nat.pow_add 2 n m).symm
  refine Rb.of (Nat.mul_pos q.den_pos r.den_pos) ?_ ?_
  · rw [Int.natAbs_mul, ← e]
    exact Nat.mul_lt_mul'' h.num k.num
  · rw [← e]
    exact Nat.mul_lt_mul'' h.den k.den
theorem value_rb {s : LineS} (h : LineOk s) {t : Int} (hr : s.ready t = true) : Rb 14 (s.value t) := by
  have hw := ready_has hr
  unfold LineS.want at hw
  have b1 := h.small (LineS.atw (hw (s.low t) (by split <;> simp)))
  obtain ⟨o1, o2, o3, o4, _, _⟩ := h
  have r0 : 0 ≤ s.rest t := Int.emod_nonneg _ (by omega)
  have r1 : s.rest t < s.pb := Int.emod_lt_of_pos _ (by omega)
  unfold LineS.value
  by_cases e : s.rest t = 0
  · rw [if_pos e]
    exact Rb.of (by decide) (by omega) (by decide)
  · rw [if_neg e] at hw ⊢
    have b2 := LineOk.small ⟨o1, o2, o3, o4, ‹_›, ‹_›⟩ (LineS.atw (hw (s.low t + 1) (by simp)))
    refine Rb.of (by omega) ?_ (by omega)
    have p1 : (s.at (s.low t) * (s.pb - s.rest t)).natAbs ≤ 999 * 8 := by
      rw [Int.natAbs_mul]
      exact Nat.mul_le_mul (by omega) (by omega)
    have p2 : (s.at (s.low t + 1) * s.rest t).natAbs ≤ 999 * 8 := by
      rw [Int.natAbs_mul]
      exact Nat.mul_le_mul (by omega) (by omega)
    omega
theorem wne : wH ≠ wR ∧ wH ≠ wO ∧ wH ≠ wF ∧ wR ≠ wO ∧ wR ≠ wF ∧ wO ≠ wF := by decide +kernel
theorem VoiceOk.give {d : Nat} {soft : Int} {v : VoiceS} (h : VoiceOk d soft v) (h1 : 1 ≤ soft) (h2 : soft ≤ 16) (t : Int) : VoiceOk d soft (v.give t soft) := by
  obtain ⟨n1, n2, n3, n4, n5, n6⟩ := wne
  obtain ⟨hl, hd, hw, hR, hF, hp, hpS, hh⟩ := h
  have hon := hd.on
  obtain ⟨D, x, y, hI, hD⟩ := id hon
  have hlev := (hI.rb hD).1
  -- a fall
  have fall : ∀ u : VoiceS, u.line = v.line → u.loud = v.loud.on → u.word = wF → 0 ≤ u.steps → u.steps < soft → Rb (d + 19) u.height → VoiceOk d soft (u.fall soft) := by
    intro u e1 e2 e3 s0 s1 hb
    have hm := (hb.mul (ratioOk (k := soft - (u.steps + 1)) (by omega) (by omega) h1 h2)).mono (show d + 19 + 5 ≤ d + 24 by omega)
    unfold VoiceS.fall
    by_cases e : u.steps + 1 = soft
    · rw [if_pos e]
      exact ⟨by rw [e1]; exact hl, by rw [e2]; exact hon, .inl rfl, fun z => absurd z n1, fun z => absurd z n3, hm, fun z => by rcases z with z | z; exact absurd z n1; exact absurd z n2, fun z => absurd z n3⟩
    · rw [if_neg e, e3]
      exact ⟨by rw [e1]; exact hl, by rw [e2]; exact hon, .inr (.inr (.inr rfl)), fun z => absurd z.symm n5, fun _ => ⟨by show 0 ≤ u.steps + 1; omega, by show u.steps + 1 < soft; omega⟩, hm, fun z => by rcases z with z | z; exact absurd z.symm n5; exact absurd z.symm n6, fun _ => hb⟩
  -- a rise
  have rise : ∀ (u : VoiceS) (x : Rat), u.line = v.line → u.loud = v.loud.on → u.word = wR → 0 ≤ u.steps → u.steps < soft → Rb (d + 14) x → VoiceOk d soft (u.rise x soft) := by
    intro u x e1 e2 e3 s0 s1 hb
    have hm := (hb.mul (ratioOk (k := u.steps + 1) (by omega) (by omega) h1 h2)).mono (show d + 14 + 5 ≤ d + 19 by omega)
    unfold VoiceS.rise
    by_cases e : u.steps + 1 = soft
    · rw [if_pos e]
      exact ⟨by rw [e1]; exact hl, by rw [e2]; exact hon, .inr (.inr (.inl rfl)), fun z => absurd z.symm n4, fun z => absurd z n6, hm.mono (by omega), fun _ => hm, fun z => absurd z n6⟩
    · rw [if_neg e, e3]
      exact ⟨by rw [e1]; exact hl, by rw [e2]; exact hon, .inr (.inl rfl), fun _ => ⟨by show 0 ≤ u.steps + 1; omega, by show u.steps + 1 < soft; omega⟩, fun z => absurd z n5, hm.mono (by omega), fun _ => hm, fun z => absurd z n5⟩
  unfold VoiceS.give
  by_cases eF : v.word = wF
  · rw [if_pos eF]
    exact fall _ rfl rfl eF (hF eF).1 (hF eF).2 (hh eF)
  · rw [if_neg eF]
    by_cases em : v.may t = true
    · rw [if_pos em]
      have hr : v.line.ready t = true := by
        unfold VoiceS.may at em
        rw [Bool.and_eq_true] at em
        exact em.2
      have hx : Rb (d + 14) (v.line.value t * v.loud.on.level) := ((value_rb hl hr).mul hlev).mono (by omega)
      unfold VoiceS.sound
      by_cases eO : v.word = wO
      · rw [if_pos eO]
        exact ⟨hl, hon, .inr (.inr (.inl eO)), fun z => absurd (eO.symm.trans z).symm n4, fun z => absurd z eF, hx.mono (by omega), fun _ => hx.mono (by omega), fun z => absurd z eF⟩
      · rw [if_neg eO]
        by_cases eH : v.word = wH
        · rw [if_pos eH]
          exact rise _ _ rfl rfl rfl (Int.le_refl 0) (by show (0 : Int) < soft; omega) hx
        · rw [if_neg eH]
          have eR : v.word = wR := by
            rcases hw with z | z | z | z
            · exact absurd z eH
            · exact z
            · exact absurd z eO
            · exact absurd z eF
          exact rise _ _ rfl rfl eR (hR eR).1 (hR eR).2 hx
    · rw [if_neg em]
      by_cases eH : v.word = wH
      · rw [if_pos eH]
        exact ⟨hl, hon, .inl eH, fun z => absurd (eH.symm.trans z) n1, fun z => absurd z eF, hp, fun z => by rcases z with z | z; exact absurd (eH.symm.trans z) n1; exact absurd (eH.symm.trans z) n2, fun z => absurd z eF⟩
      · rw [if_neg eH]
        have eS : v.word = wR ∨ v.word = wO := by
          rcases hw with z | z | z | z
          · exact absurd z eH
          · exact .inl z
          · exact .inr z
          · exact absurd z eF
        exact fall _ rfl rfl rfl (Int.le_refl 0) (by show (0 : Int) < soft; omega) (hpS eS)
end Mx

namespace Mx
open PySem L2
set_option hygiene false in
local macro_rules | `(tactic| walk_at "rd") => `(tactic| try simp only [L2.start, List.map_cons, List.map_nil, List.length_cons, List.length_nil, Nat.reduceAdd, Nat.reduceSub, Nat.reduceLT, Nat.reduceLeDiff, List.replicate_succ, List.replicate_zero, List.append_nil, List.nil_append, List.cons_append, List.set_cons_zero, List.set_cons_succ, List.getElem?_cons_zero, List.getElem?_cons_succ,
  Option.some.injEq, List.cons.injEq, and_true, true_and, and_assoc, reduceCtorEq, L2.V.int.injEq, L2.V.ref.injEq, L2.V.bl.injEq, L2.V.str.injEq, L2.V.ty.injEq, L2.HO.ins.injEq, L2.HO.lst.injEq, L2.HO.tup.injEq, L2.HO.dK.injEq, exists_eq_left', exists_eq_left, exists_eq_right, exists_eq', exists_eq, exists_and_left, exists_and_right, reduceIte, Bool.false_eq_true, Bool.not_true, Bool.not_false,
  L2.tSeq, L2.tIfS, L2.tRet, L2.tRetN, L2.tNext, L2.tAsg, L2.gName, L2.tVar, L2.tC, L2.tCons, L2.tNil, L2.tCB, L2.tOp, L2.tUn, L2.tTup, L2.tLst, L2.tB, L2.tOr, L2.tAnd, L2.tNot, L2.tAndV, L2.tOrV, L2.tNotV, L2.tIf, L2.tTest, L2.tChain, L2.rI, L2.rI0, L2.rU, L2.tDrop, L2.tNever, L2.tCall, L2.tMeth, L2.tMake, L2.rGcd, L2.tFld, L2.sFld, L2.sFldAug, Mx.sFldA, Mx.sFldAugA, L2.rAdd, L2.rSub, L2.rEq, L2.rNe, L2.tDGet, L2.tDIn, L2.tDNotIn, L2.sDPut,
  Mx.isi_int_bool, Mx.isi_int_int, Mx.isi_int_tuple, Mx.isi_int_list, Mx.isi_int_str, Mx.scal_int, Mx.scal_str, Mx.scal_bl, Mx.ofString_inj, Mx.ofString_beq, Mx.lk_cons, Mx.pf_nil, Mx.pf_cons, Mx.sz1, Mx.sz2, List.lookup_nil, String.reduceEq, decide_true, decide_false, decide_eq_true_eq, Int.natAbs_natCast, L2.upd_same, L2.upd_upd, L2.cxOf, Mx.fsV, Mx.fsD, Mx.fsL])
set_option hygiene false in
local macro_rules | `(tactic| walk_at "rds") => `(tactic| try simp only [L2.start, List.map_cons, List.map_nil, List.length_cons, List.length_nil, Nat.reduceAdd, Nat.reduceSub, Nat.reduceLT, Nat.reduceLeDiff, List.replicate_succ, List.replicate_zero, List.append_nil, List.nil_append, List.cons_append, List.set_cons_zero, List.set_cons_succ, List.getElem?_cons_zero, List.getElem?_cons_succ,
  Option.some.injEq, List.cons.injEq, and_true, true_and, and_assoc, reduceCtorEq, L2.V.int.injEq, L2.V.ref.injEq, L2.V.bl.injEq, L2.V.str.injEq, L2.V.ty.injEq, L2.HO.ins.injEq, L2.HO.lst.injEq, L2.HO.tup.injEq, L2.HO.dK.injEq, exists_eq_left', exists_eq_left, exists_eq_right, exists_eq', exists_eq, exists_and_left, exists_and_right, reduceIte, Bool.false_eq_true, Bool.not_true, Bool.not_false,
  L2.tSeq, L2.tIfS, L2.tRet, L2.tRetN, L2.tNext, L2.tAsg, L2.gName, L2.tVar, L2.tC, L2.tCons, L2.tNil, L2.tCB, L2.tOp, L2.tUn, L2.tTup, L2.tLst, L2.tB, L2.tOr, L2.tAnd, L2.tNot, L2.tAndV, L2.tOrV, L2.tNotV, L2.tIf, L2.tTest, L2.tChain, L2.rI, L2.rI0, L2.rU, L2.tDrop, L2.tNever, L2.tCall, L2.tMeth, L2.tMake, L2.rGcd, L2.tFld, L2.sFld, L2.sFldAug, Mx.sFldA, Mx.sFldAugA, L2.rAdd, L2.rSub, L2.rEq, L2.rNe, L2.tDGet, L2.tDIn, L2.tDNotIn, L2.sDPut,
  Mx.isi_int_bool, Mx.isi_int_int, Mx.isi_int_tuple, Mx.isi_int_list, Mx.isi_int_str, Mx.scal_int, Mx.scal_str, Mx.scal_bl, Mx.ofString_inj, Mx.ofString_beq, Mx.lk_cons, Mx.pf_nil, Mx.pf_cons, Mx.sz1, Mx.sz2, List.lookup_nil, String.reduceEq, decide_true, decide_false, decide_eq_true_eq, Int.natAbs_natCast, L2.upd_same, L2.upd_upd, L2.cxOf, Mx.fsV, Mx.fsD, Mx.fsL, *])

section
variable {P : Program} {w : World} {K : PySem.W.Frag} {mg : Str → Option Value} {base : Heap} {cs : Cs}
def sp_Voice_init (K : PySem.W.Frag) (cs : Cs) : Sp := fun vs H Q _ => ∃ (a dx t : Addr) (pn pb b n : Int), vs = [.ref a, .ref t, .int b, .int n] ∧ H a = some (.ins cs.V dx []) ∧ H t = some (.tup [.int pn, .int pb]) ∧
  ∀ (A : VA) H', A.a = a → (∀ b ∈ A.foot, b = a ∨ H b = none) → VoiceAt K cs H' A ⟨⟨pn, pb, b, [], 0, none⟩, ⟨mkRat n 64, 0, 0⟩, true, wH, 0, 0, 0⟩ → Stp [a] H H' → Q .non H'
theorem sc_Voice_init : FnScope ["self", "pace", "begin", "loudness"] ["self", "pace", "begin", "loudness"] (defScope s_Voice_init) := ⟨rfl, rfl, rfl, by decide +kernel, rfl, by decide +kernel, by decide +kernel⟩
theorem stp_made {H : Hp} {x dx C : Addr} (hx : H x = none) (hd : H dx = none) : Stp [] H (upd (upd H dx (.own x)) x (.ins C dx [])) := .of fun b o e => by
  rw [upd_ne (ne_of_none e hx), upd_ne (ne_of_none e hd)]
  exact e
theorem ok_Voice_init {f : Addr} {fd : FuncData} (F : Fun K "__init__" "Voice.__init__" s_Voice_init f fd) (T : TV K cs.V) (TT : TC K mg) (GL : OwnC P w K mg base cs.L "Line" 1 ["self", "pace", "begin"] (sp_Line_init K cs.L))
    (GD : OwnC P w K mg base cs.D "Loudness" 2 ["self", "loudness"] (sp_Loudness_init K cs.D)) : FnOk P w K mg base CX0 4 f fd ["self", "pace", "begin", "loudness"] (sp_Voice_init K cs) := by
  refine F.ok sc_Voice_init (fun vs H Q E h => ?_) (fun cdv A outer s H vs Q E hr h => ?_)
  · obtain ⟨a, dx, t, pn, pb, b, n, rfl, _⟩ := h
    rfl
  · obtain ⟨a, dx, t, pn, pb, b, n, rfl, ha, ht, k⟩ := h
    obtain ⟨cl, a1, a2, a3, a4, a5, a6, a7⟩ := T
    obtain ⟨aN, hN, hN2⟩ := TT.nothing
    obtain ⟨tH, hH⟩ := TT.hushed
    refine ⟨_, pss_cons (ps_fldA (pv 0) (p_make GL (hr.mono (by decide)) (pa_cons (pv 1) (pa_cons (pv 2) pa_nil))) rfl)
      (pss_cons (ps_fldA (pv 0) (p_make GD hr (pa_cons (pv 3) pa_nil)) rfl)
      (pss_cons (ps_fldA (pv 0) pe_bl rfl) (pss_cons (ps_fldA (pv 0) (pe_glob (v := .str "hushed") (by rfl) hH ⟨_, rfl⟩) rfl) (pss_cons (ps_fldA (pv 0) pe_int rfl)
      (pss_cons (ps_fldA (pv 0) (pe_glob (v := .ref aN) (by rfl) hN rfl) rfl) (pss_one (ps_fldA (pv 0) (pe_glob (v := .ref aN) (by rfl) hN rfl) rfl))))))), ?_⟩
    walk_at "rds"
    intro l dl hl hdl hdn
    have s1 := stp_made (C := cs.L) hl hdl
    have e1 : upd (upd H dl (.own l)) l (.ins cs.L dl []) l = some (.ins cs.L dl []) := upd_same
    generalize upd (upd H dl (.own l)) l (.ins cs.L dl []) = H1 at *
    refine ⟨l, dl, t, pn, pb, b, rfl, e1, s1.tup _ _ ht, fun c H2 hc hL2 s2 => ⟨rfl, ?_⟩⟩
    have hla : a ≠ l := ne_of_none ha hl
    have f2 := (s2.keep _ _ (s1.keep _ _ ha (by simp)) (by simpa using hla))
    have hcl : l ≠ c := hL2.ne
    have hca : a ≠ c := ne_of_none (s1.keep _ _ ha (by simp)) hc
    have hc0 : H c = none := s1.free hc (by simp)
    walk_at "rds"
    intro H3 g3 s3
    have hL3 := hL2.st s3 (by simpa using hla.symm) (by simpa using hca.symm)
    intro q dq hq hdq hqn
    have s4 := stp_made (C := cs.D) hq hdq
    have e4 : upd (upd H3 dq (.own q)) q (.ins cs.D dq []) q = some (.ins cs.D dq []) := upd_same
    generalize upd (upd H3 dq (.own q)) q (.ins cs.D dq []) = H4 at *
    refine ⟨q, dq, n, rfl, e4, fun H5 hD5 s5 => ⟨rfl, ?_⟩⟩
    have hqa : a ≠ q := ne_of_none g3 hq
    have hql : l ≠ q := by
      obtain ⟨_, _, z, _⟩ := hL3.ob
      exact ne_of_none z hq
    have hqc : c ≠ q := ne_of_none hL3.dc hq
    have g5 := s5.keep _ _ (s4.keep _ _ g3 (by simp)) (by simpa using hqa)
    have hL5 := (hL3.st0 s4).st s5 (by simpa using hql) (by simpa using hqc)
    have hq0 : H q = none := by
      have := s3.free hq (by simpa using hqa.symm)
      have := s2.free this (by simpa using hql.symm)
      exact s1.free this (by simp)
    have t5 := ((s1.trans s2).trans s3).trans (s4.trans s5)
    walk_at "rds"
    intro H6 g6 s6
    walk_at "rds"
    intro H7 g7 s7
    walk_at "rds"
    intro H8 g8 s8
    walk_at "rds"
    intro H9 g9 s9
    walk_at "rds"
    intro Hy gy sy
    walk_at "rds"
    intro Hx gx sx
    have tx := s6.trans (s7.trans (s8.trans (s9.trans (sy.trans sx))))
    have na : ∀ z, a ≠ z → z ∉ [a] ++ ([a] ++ ([a] ++ ([a] ++ ([a] ++ [a])))) := fun z hz => by simpa using Ne.symm hz
    refine k ⟨a, l, c, q⟩ _ rfl (fun b hb => ?_) ⟨⟨dx, _, _, gx, isQ0 hN2, isQ0 hN2⟩, hL5.st tx (na _ hla) (na _ hca), hD5.st tx (na _ hqa), ?_⟩ ?_
    · simp only [VA.foot, List.mem_cons, List.not_mem_nil, or_false] at hb
      rcases hb with e | e | e | e <;> subst e
      · exact .inl rfl
      · exact .inr hl
      · exact .inr hc0
      · exact .inr hq0
    · simp [VA.foot, hla, hca, hqa, hcl, hql, hqc]
    · refine (t5.trans tx).subN fun z hz => ?_
      simp only [List.nil_append, List.append_assoc, List.mem_append, List.mem_cons, List.not_mem_nil, or_false, List.mem_singleton] at hz
      rcases hz with e | e | e | e | e | e | e | e | e
      · exact .inr (e ▸ hl)
      · exact .inl (by simp [e])
      · exact .inr (e ▸ hq0)
      all_goals exact .inl (by simp [e])

theorem sound_ll (u : VoiceS) (x : Rat) (soft : Int) : (u.sound x soft).line = u.line ∧ (u.sound x soft).loud = u.loud := by
  unfold VoiceS.sound
  by_cases e : u.word = wO
  · rw [if_pos e]
    exact ⟨rfl, rfl⟩
  · rw [if_neg e]
    by_cases e2 : u.word = wH
    · rw [if_pos e2]
      exact ⟨rfl, rfl⟩
    · rw [if_neg e2]
      exact ⟨rfl, rfl⟩
theorem give_ll (v : VoiceS) (t soft : Int) : (v.give t soft).line = v.line ∧ (v.give t soft).loud = v.loud.on := by
  unfold VoiceS.give
  by_cases e : v.word = wF
  · rw [if_pos e]
    exact ⟨rfl, rfl⟩
  · rw [if_neg e]
    by_cases e2 : v.may t = true
    · rw [if_pos e2]
      exact sound_ll _ _ _
    · rw [if_neg e2]
      by_cases e3 : v.word = wH
      · rw [if_pos e3]
        exact ⟨rfl, rfl⟩
      · rw [if_neg e3]
        exact ⟨rfl, rfl⟩
theorem give_line (v : VoiceS) (t soft : Int) : (v.give t soft).line = v.line := (give_ll v t soft).1
theorem give_loud (v : VoiceS) (t soft : Int) : (v.give t soft).loud = v.loud.on := (give_ll v t soft).2
def sp_Voice_give (K : PySem.W.Frag) (cs : Cs) : Sp := fun vs H Q _ => ∃ (A : VA) (v : VoiceS) (t soft : Int) (d : Nat), vs = [.ref A.a, .int t, .int soft] ∧ VoiceAt K cs H A v ∧ VoiceOk d soft v ∧ 1 ≤ soft ∧ soft ≤ 16 ∧ 0 < d ∧ 2 * d < 8900 ∧
  ∀ r H', IsQ K H' r (v.give t soft).part → VoiceAt K cs H' A (v.give t soft) → Stp A.foot H H' → Q r H'
theorem sc_Voice_give : FnScope ["self", "beat", "soft", "may_sound"] ["self", "beat", "soft"] (defScope s_Voice_give) := ⟨rfl, rfl, rfl, by decide +kernel, rfl, by decide +kernel, by decide +kernel⟩
theorem ok_Voice_give {f : Addr} {fd : FuncData} (F : Fun K "give" "Voice.give" s_Voice_give f fd) (T : TV K cs.V) (TDD : TD K cs.D) (TT : TC K mg)
    (G1 : OwnM P w K mg base cs.D "lead_on" 3 ["self"] (sp_Loudness_lead_on K cs.D)) (G2 : OwnM P w K mg base cs.L "ready" 6 ["self", "beat"] (sp_Line_bool cs.L LineS.ready)) (G3 : OwnM P w K mg base cs.V "fall" 3 ["self", "soft"] (sp_Voice_fall K cs.V))
    (G4 : OwnM P w K mg base cs.L "value" 2 ["self", "beat"] (sp_Line_value cs.L)) (G5 : OwnM P w K mg base cs.V "sound" 4 ["self", "whole", "soft"] (sp_Voice_sound K cs.V)) (G6 : OwnM P w K mg base cs.V "begin_fall" 4 ["self", "soft"] (sp_Voice_begin_fall K cs.V))
    (GT : OwnF P w K mg base "times" 2 ["one", "other"] (sp_two (· * ·) K)) : FnOk P w K mg base CX0 7 f fd ["self", "beat", "soft"] (sp_Voice_give K cs) := by
  refine F.ok sc_Voice_give (fun vs H Q E h => ?_) (fun cdv A outer s H vs Q E hr h => ?_)
  · obtain ⟨A, v, t, soft, d, rfl, _⟩ := h
    rfl
  · obtain ⟨A, v, t, soft, d, rfl, hV, hO, hs1, hs2, hd0, hd, k⟩ := h
    obtain ⟨tH, hH⟩ := TT.hushed
    obtain ⟨tF, hF⟩ := TT.falling
    refine ⟨_, pss_cons (ps_expr (p_meth0 G1 (hr.mono (by decide)) (pe_fld (pv 0) rfl)))
      (pss_cons (ps_set (i := 3) sc_Voice_give.nd rfl (.inl rfl) (pe_and (pe_fld (pv 0) rfl) (pe_one (p_meth G2 hr (pe_fld (pv 0) rfl) (pa_cons (pv 1) pa_nil)))))
      (pss_cons (ps_if (pt_cmpR op_eq (pe_fld (pv 0) rfl) (pe_glob (v := .str "falling") (by rfl) hF ⟨_, rfl⟩) (nomark _)) (pss_one (ps_expr (p_meth G3 (hr.mono (by decide)) (pv 0) (pa_cons (pv 2) pa_nil))))
        (pss_one (ps_if (pt_val (pv 3)) (pss_one (ps_expr (p_meth G5 (hr.mono (by decide)) (pv 0) (pa_cons (p_call GT (hr.mono (by decide)) (pa_cons (p_meth G4 (hr.mono (by decide)) (pe_fld (pv 0) rfl) (pa_cons (pv 1) pa_nil)) (pa_cons (pe_fld (pe_fld (pv 0) rfl) rfl) pa_nil))) (pa_cons (pv 2) pa_nil)))))
          (pss_one (ps_if (pt_cmpR op_ne (pe_fld (pv 0) rfl) (pe_glob (v := .str "hushed") (by rfl) hH ⟨_, rfl⟩) (nomark _)) (pss_one (ps_expr (p_meth G6 (hr.mono (by decide)) (pv 0) (pa_cons (pv 2) pa_nil)))) pss_nil)))))
      (pss_one (ps_ret (pe_fld (pv 0) rfl))))), ?_⟩
    obtain ⟨dcl, da1, da2, da3⟩ := TDD
    obtain ⟨cl, a1, a2, a3, a4, a5, a6, a7⟩ := T
    obtain ⟨hVo, hVl, hVd, hnd⟩ := hV
    obtain ⟨dx, pv', hv', h1, h2, h3⟩ := id hVo
    obtain ⟨dq, lv, st, q1, q2, q3⟩ := id hVd
    walk_at "rds"
    refine ⟨A.q, v.loud, d, rfl, hVd, hO.loud, hd0, by omega, fun H1 hD1 s1 => ?_⟩
    have nal : A.a ≠ A.l ∧ A.a ≠ A.c ∧ A.a ≠ A.q ∧ A.l ≠ A.c ∧ A.l ≠ A.q ∧ A.c ≠ A.q := by
      simp only [VA.foot, List.nodup_cons, List.mem_cons, List.not_mem_nil, or_false, not_or, List.nodup_nil, and_true, not_false_eq_true] at hnd
      exact ⟨hnd.1.1, hnd.1.2.1, hnd.1.2.2, hnd.2.1.1, hnd.2.1.2, hnd.2.2⟩
    obtain ⟨nal1, nac, naq, nlc, nlq, ncq⟩ := nal
    have hL1 := hVl.st s1 (by simpa using nlq) (by simpa using ncq)
    have h1a := s1.keep _ _ h1 (by simpa using naq)
    obtain ⟨dl, tpl, hl1, _⟩ := id hL1.ob
    walk_at "rds"
    have main : ∀ (H2 : Hp), Stp [] H1 H2 → (∀ r H', IsQ K H' r (v.give t soft).part → VObj K cs.V H' A.a A.l A.q (v.give t soft) → Stp [A.a] H2 H' → Q r H') := by
      intro H2 s2 r H' hq hv s3
      refine k r H' hq ⟨hv, ?_, ?_, hnd⟩ (((s1.trans s2).trans s3).sub (by simp [VA.foot]))
      · have e : (v.give t soft).line = v.line := give_line v t soft
        rw [e]
        exact (hL1.st0 s2).st s3 (by simpa using nal1.symm) (by simpa using nac.symm)
      · have e : (v.give t soft).loud = v.loud.on := give_loud v t soft
        rw [e]
        exact (hD1.st s2 (by simp)).st s3 (by simpa using naq.symm)
    have fin : ∀ (H2 H3 : Hp) (u : VoiceS), Stp [] H1 H2 → v.give t soft = u → VObj K cs.V H3 A.a A.l A.q u → Stp [A.a] H2 H3 → tFld K (tVar 0) "part" [some (.ref A.a), some (.int t), some (.int soft), some (.bl (v.may t))] H3 Q := by
      intro H2 H3 u s2 eu hv s3
      obtain ⟨dy, pv2, hv2, g1, g2, g3⟩ := id hv
      refine ⟨_, rfl, A.a, cs.V, dy, _, pv2, rfl, g1, cl, a6, ?_, main H2 s2 _ _ (by rw [eu]; exact g2) (by rw [eu]; exact hv) s3⟩
      walk_at "rd"
    have hVo1 : VObj K cs.V H1 A.a A.l A.q { v with loud := v.loud.on } := by
      obtain ⟨dy, pv2, hv2, g1, g2, g3⟩ := hVo.st s1 (by simpa using naq)
      exact ⟨dy, pv2, hv2, g1, g2, g3⟩
    cases eh : v.heard with
    | false =>
      have em : v.may t = false := by unfold VoiceS.may; rw [eh]; rfl
      walk_at "rds"
      have s2 : Stp [] H1 H1 := Stp.refl
      have hVo2 := hVo1
      by_cases eF : v.word = wF
      · have eu : v.give t soft = VoiceS.fall { v with loud := v.loud.on } soft := by
          unfold VoiceS.give
          rw [if_pos eF]
        rw [if_pos (show v.word = Str.ofString "falling" from eF)]
        refine ⟨A.a, A.l, A.q, { v with loud := v.loud.on }, soft, d + 19, rfl, hVo2, hs1, hs2, (hO.stF eF).1, (hO.stF eF).2, hO.height eF, by omega, by omega, fun H3 hv s3 => ?_⟩
        obtain ⟨dy, pv2, hv2, g1, g2, g3⟩ := id hv
        walk_at "rds"
        exact main H1 s2 _ _ (by rw [eu]; exact g2) (by rw [eu]; exact hv) s3
      · rw [if_neg (show ¬ v.word = Str.ofString "falling" from eF)]
        by_cases eH : v.word = wH
        · have eu : v.give t soft = { v with loud := v.loud.on } := by
            unfold VoiceS.give
            rw [if_neg eF, if_neg (by rw [em]; decide), if_pos eH]
          rw [decide_eq_true (show v.word = Str.ofString "hushed" from eH)]
          walk_at "rd"
          obtain ⟨dy, pv2, hv2, g1, g2, g3⟩ := id hVo2
          exact main H1 s2 _ _ (by rw [eu]; exact (h2.st s1).st s2) (by rw [eu]; exact hVo2) (Stp.refl.sub (by simp))
        · have eu : v.give t soft = VoiceS.beginFall { v with loud := v.loud.on } soft := by
            unfold VoiceS.give
            rw [if_neg eF, if_neg (by rw [em]; decide), if_neg eH]
          have eS : v.word = wR ∨ v.word = wO := by
            rcases hO.word with z | z | z | z
            · exact absurd z eH
            · exact .inl z
            · exact .inr z
            · exact absurd z eF
          rw [decide_eq_false (show ¬ v.word = Str.ofString "hushed" from eH)]
          walk_at "rd"
          refine ⟨A.a, A.l, A.q, { v with loud := v.loud.on }, soft, d + 19, rfl, hVo2, hs1, hs2, hO.partS eS, by omega, by omega, fun H3 hv s3 => ?_⟩
          obtain ⟨dy, pv2, hv2, g1, g2, g3⟩ := id hv
          walk_at "rds"
          exact main H1 s2 _ _ (by rw [eu]; exact g2) (by rw [eu]; exact hv) s3
    | true =>
      walk_at "rds"
      refine ⟨A.l, A.c, v.line, t, rfl, hL1, hO.line, fun H2 s2 => ?_⟩
      have em : v.may t = v.line.ready t := by unfold VoiceS.may; rw [eh]; rfl
      have hVo2 := hVo1.st s2 (by simp)
      have h2a := s2.keep _ _ h1a (by simp)
      have h2l := s2.keep _ _ hl1 (by simp)
      cases er : v.line.ready t with
      | false =>
        rw [er] at em
        walk_at "rds"
        by_cases eF : v.word = wF
        · have eu : v.give t soft = VoiceS.fall { v with loud := v.loud.on } soft := by
            unfold VoiceS.give
            rw [if_pos eF]
          rw [if_pos (show v.word = Str.ofString "falling" from eF)]
          refine ⟨A.a, A.l, A.q, { v with loud := v.loud.on }, soft, d + 19, rfl, hVo2, hs1, hs2, (hO.stF eF).1, (hO.stF eF).2, hO.height eF, by omega, by omega, fun H3 hv s3 => ?_⟩
          obtain ⟨dy, pv2, hv2, g1, g2, g3⟩ := id hv
          walk_at "rds"
          exact main H2 s2 _ _ (by rw [eu]; exact g2) (by rw [eu]; exact hv) s3
        · rw [if_neg (show ¬ v.word = Str.ofString "falling" from eF)]
          by_cases eH : v.word = wH
          · have eu : v.give t soft = { v with loud := v.loud.on } := by
              unfold VoiceS.give
              rw [if_neg eF, if_neg (by rw [em]; decide), if_pos eH]
            rw [decide_eq_true (show v.word = Str.ofString "hushed" from eH)]
            walk_at "rd"
            obtain ⟨dy, pv2, hv2, g1, g2, g3⟩ := id hVo2
            exact main H2 s2 _ _ (by rw [eu]; exact (h2.st s1).st s2) (by rw [eu]; exact hVo2) (Stp.refl.sub (by simp))
          · have eu : v.give t soft = VoiceS.beginFall { v with loud := v.loud.on } soft := by
              unfold VoiceS.give
              rw [if_neg eF, if_neg (by rw [em]; decide), if_neg eH]
            have eS : v.word = wR ∨ v.word = wO := by
              rcases hO.word with z | z | z | z
              · exact absurd z eH
              · exact .inl z
              · exact .inr z
              · exact absurd z eF
            rw [decide_eq_false (show ¬ v.word = Str.ofString "hushed" from eH)]
            walk_at "rd"
            refine ⟨A.a, A.l, A.q, { v with loud := v.loud.on }, soft, d + 19, rfl, hVo2, hs1, hs2, hO.partS eS, by omega, by omega, fun H3 hv s3 => ?_⟩
            obtain ⟨dy, pv2, hv2, g1, g2, g3⟩ := id hv
            walk_at "rds"
            exact main H2 s2 _ _ (by rw [eu]; exact g2) (by rw [eu]; exact hv) s3
      | true =>
        rw [er] at em
        walk_at "rds"
        by_cases eF : v.word = wF
        · have eu : v.give t soft = VoiceS.fall { v with loud := v.loud.on } soft := by
            unfold VoiceS.give
            rw [if_pos eF]
          rw [if_pos (show v.word = Str.ofString "falling" from eF)]
          refine ⟨A.a, A.l, A.q, { v with loud := v.loud.on }, soft, d + 19, rfl, hVo2, hs1, hs2, (hO.stF eF).1, (hO.stF eF).2, hO.height eF, by omega, by omega, fun H3 hv s3 => ?_⟩
          obtain ⟨dy, pv2, hv2, g1, g2, g3⟩ := id hv
          walk_at "rds"
          exact main H2 s2 _ _ (by rw [eu]; exact g2) (by rw [eu]; exact hv) s3
        · rw [if_neg (show ¬ v.word = Str.ofString "falling" from eF)]
          have eu : v.give t soft = VoiceS.sound { v with loud := v.loud.on } (v.line.value t * v.loud.on.level) soft := by
            unfold VoiceS.give
            rw [if_neg eF, if_pos (by rw [em])]
          refine ⟨A.l, A.c, v.line, t, rfl, hL1.st0 s2, hO.line, er, fun p Ha hp sa la => ?_⟩
          obtain ⟨dqa, lva, sta, qa1, qa2, qa3⟩ := (hD1.st s2 (by simp)).st sa (by simp)
          have hla := sa.keep _ _ (s2.keep _ _ h1a (by simp)) (by simp)
          obtain ⟨al, rfl, qa2'⟩ := qa2
          obtain ⟨DD, xx, yy, hII, hDD⟩ := hO.loud.on
          have hlev := (hII.rb hDD).1
          have hx : Rb (d + 14) (v.line.value t * v.loud.on.level) := ((value_rb hO.line er).mul hlev).mono (by omega)
          walk_at "rds"
          refine ⟨p, al, _, _, 14, d, rfl, .inl la, qa2', value_rb hO.line er, hlev, by omega, by decide, hd0, fun pw Hb hpw sb lb => ?_⟩
          have eS : v.word = wH ∨ v.word = wR ∨ v.word = wO := by
            rcases hO.word with z | z | z | z
            · exact .inl z
            · exact .inr (.inl z)
            · exact .inr (.inr z)
            · exact absurd z eF
          have hlb := sb.keep _ _ hla (by simp)
          walk_at "rds"
          refine ⟨A.a, A.l, A.q, { v with loud := v.loud.on }, _, _, soft, d + 14, rfl, (hVo2.st sa (by simp)).st sb (by simp), isQ_of lb, hs1, hs2, hO.stR, eS, hx, by omega, by omega, fun H3 hv s3' => ?_⟩
          have s3 := ((sa.trans sb).trans s3').sub (G := [A.a]) (by simp)
          obtain ⟨dy, pv2, hv2, g1, g2, g3⟩ := id hv
          walk_at "rds"
          exact main H2 s2 _ _ (by rw [eu]; exact g2) (by rw [eu]; exact hv) s3
end
end Mx

namespace Mx
open PySem L2
/-! ### the mixer -/
abbrev MV := Int × VA × VoiceS
structure MixS where
  soft : Int
  coming : Int
  vs : List MV
  lacked : List (Int × Int)
def fsM (d k : Addr) (soft coming : Int) : List (Str × V) := [("soft", .int soft), ("coming", .int coming), ("voices", .ref d), ("lacked", .ref k)]
def vdict (vs : List MV) : List (Key × V) := vs.map fun e => (Sum.inl e.1, V.ref e.2.1.a)
def IsPair (H : Hp) (v : V) (p : Int × Int) : Prop := ∃ a, v = .ref a ∧ H a = some (.tup [.int p.1, .int p.2])
structure MixAt (K : PySem.W.Frag) (cs : Cs) (H : Hp) (m d k : Addr) (s : MixS) : Prop where
  ob : ∃ dx, H m = some (.ins cs.M dx (fsM d k s.soft s.coming))
  dv : H d = some (.dK (vdict s.vs))
  lk : ∃ ls, H k = some (.lst ls) ∧ Paired (IsPair H) ls s.lacked
  vo : ∀ e ∈ s.vs, VoiceAt K cs H e.2.1 e.2.2
  ap : ∀ e ∈ s.vs, m ∉ e.2.1.foot ∧ d ∉ e.2.1.foot ∧ k ∉ e.2.1.foot
  dj : ∀ e ∈ s.vs, ∀ f ∈ s.vs, e.1 ≠ f.1 → ∀ b ∈ e.2.1.foot, b ∉ f.2.1.foot
  nm : (s.vs.map (·.1)).Nodup
def MixS.foot (m d k : Addr) (s : MixS) : List Addr := m :: d :: k :: s.vs.flatMap fun e => e.2.1.foot
theorem IsPair.st {F : List Addr} {H H' : Hp} {v : V} {p : Int × Int} (h : IsPair H v p) (s : Stp F H H') : IsPair H' v p := by
  obtain ⟨a, e, g⟩ := h
  exact ⟨a, e, s.tup _ _ g⟩
theorem pairs_st {F : List Addr} {H H' : Hp} (s : Stp F H H') : ∀ {ls : List V} {ps : List (Int × Int)}, Paired (IsPair H) ls ps → Paired (IsPair H') ls ps
  | _, _, .nil => .nil
  | _, _, .cons h r => .cons (h.st s) (pairs_st s r)
theorem MixAt.ne {K : PySem.W.Frag} {cs : Cs} {H : Hp} {m d k : Addr} {s : MixS} (h : MixAt K cs H m d k s) : m ≠ d ∧ m ≠ k ∧ d ≠ k := by
  obtain ⟨⟨dx, h1⟩, h2, ⟨ls, h3, _⟩, _⟩ := h
  exact ⟨ne_of h1 h2 (fun z => nomatch z), ne_of h1 h3 (fun z => nomatch z), ne_of h2 h3 (fun z => nomatch z)⟩
theorem MixAt.st {K : PySem.W.Frag} {cs : Cs} {F : List Addr} {H H' : Hp} {m d k : Addr} {s : MixS} (h : MixAt K cs H m d k s) (g : Stp F H H') (n : ∀ b ∈ s.foot m d k, b ∉ F) : MixAt K cs H' m d k s := by
  obtain ⟨⟨dx, h1⟩, h2, ⟨ls, h3, h4⟩, h5, h6, h7, h8⟩ := h
  refine ⟨⟨dx, g.keep _ _ h1 (n _ (by simp [MixS.foot]))⟩, g.keep _ _ h2 (n _ (by simp [MixS.foot])), ⟨ls, g.keep _ _ h3 (n _ (by simp [MixS.foot])), pairs_st g h4⟩, fun e he => (h5 e he).st g fun b hb => n b ?_, h6, h7, h8⟩
  unfold MixS.foot
  exact List.mem_cons_of_mem _ (List.mem_cons_of_mem _ (List.mem_cons_of_mem _ (List.mem_flatMap.mpr ⟨e, he, hb⟩)))
theorem MixAt.st0 {K : PySem.W.Frag} {cs : Cs} {H H' : Hp} {m d k : Addr} {s : MixS} (h : MixAt K cs H m d k s) (g : Stp [] H H') : MixAt K cs H' m d k s := h.st g (by simp)
theorem MixAt.some {K : PySem.W.Frag} {cs : Cs} {H : Hp} {m d k : Addr} {s : MixS} (h : MixAt K cs H m d k s) : ∀ b ∈ s.foot m d k, H b ≠ none := by
  obtain ⟨⟨dx, h1⟩, h2, ⟨ls, h3, h4⟩, h5, h6, h7, h8⟩ := h
  intro b hb
  unfold MixS.foot at hb
  rcases List.mem_cons.mp hb with e | hb
  · rw [e, h1]; exact fun z => nomatch z
  rcases List.mem_cons.mp hb with e | hb
  · rw [e, h2]; exact fun z => nomatch z
  rcases List.mem_cons.mp hb with e | hb
  · rw [e, h3]; exact fun z => nomatch z
  obtain ⟨e, he, hb⟩ := List.mem_flatMap.mp hb
  exact (h5 e he).some b hb
/-- the voice of a name turned -/
def setV (vs : List MV) (n : Int) (v : VoiceS) : List MV := vs.map fun e => if e.1 = n then (e.1, e.2.1, v) else e
theorem setV_names (vs : List MV) (n : Int) (v : VoiceS) : (setV vs n v).map (·.1) = vs.map (·.1) := by
  unfold setV
  rw [List.map_map]
  refine List.map_congr_left fun e _ => ?_
  show (if e.1 = n then (e.1, e.2.1, v) else e).1 = e.1
  split <;> rfl
theorem setV_dict (vs : List MV) (n : Int) (v : VoiceS) : vdict (setV vs n v) = vdict vs := by
  unfold vdict setV
  rw [List.map_map]
  refine List.map_congr_left fun e _ => ?_
  show ((Sum.inl (if e.1 = n then (e.1, e.2.1, v) else e).1, V.ref (if e.1 = n then (e.1, e.2.1, v) else e).2.1.a) : Key × V) = _
  split <;> rfl
theorem setV_mem {vs : List MV} {n : Int} {v : VoiceS} {f : MV} (h : f ∈ setV vs n v) : ∃ e ∈ vs, e.1 = f.1 ∧ e.2.1 = f.2.1 ∧ (f.1 = n ∧ f.2.2 = v ∨ f.1 ≠ n ∧ f = e) := by
  unfold setV at h
  obtain ⟨e, he, rfl⟩ := List.mem_map.mp h
  refine ⟨e, he, ?_⟩
  by_cases q : e.1 = n
  · rw [if_pos q]
    exact ⟨rfl, rfl, .inl ⟨q, rfl⟩⟩
  · rw [if_neg q]
    exact ⟨rfl, rfl, .inr ⟨q, rfl⟩⟩
theorem setV_foot (vs : List MV) (n : Int) (v : VoiceS) : ((setV vs n v).flatMap fun e => e.2.1.foot) = vs.flatMap fun e => e.2.1.foot := by
  unfold setV
  induction vs with
  | nil => rfl
  | cons e r ih =>
    rw [List.map_cons, List.flatMap_cons, List.flatMap_cons, ih]
    congr 1
    split <;> rfl
theorem nodup_inj {vs : List MV} (h : (vs.map (·.1)).Nodup) {e f : MV} (he : e ∈ vs) (hf : f ∈ vs) (q : e.1 = f.1) : e = f := by
  induction vs with
  | nil => cases he
  | cons x r ih =>
    rw [List.map_cons, List.nodup_cons] at h
    rcases List.mem_cons.mp he with a | a <;> rcases List.mem_cons.mp hf with b | b
    · rw [a, b]
    · exact absurd (List.mem_map.mpr ⟨f, b, by rw [← q, a]⟩) h.1
    · exact absurd (List.mem_map.mpr ⟨e, a, by rw [q, b]⟩) h.1
    · exact ih h.2 a b
theorem MixAt.turn {K : PySem.W.Frag} {cs : Cs} {F : List Addr} {H H' : Hp} {m d k : Addr} {s : MixS} (h : MixAt K cs H m d k s) {e : MV} (he : e ∈ s.vs) {v : VoiceS} (g : Stp F H H') (hF : ∀ b ∈ F, b ∈ e.2.1.foot) (hv : VoiceAt K cs H' e.2.1 v) : MixAt K cs H' m d k { s with vs := setV s.vs e.1 v } := by
  obtain ⟨⟨dx, h1⟩, h2, ⟨ls, h3, h4⟩, h5, h6, h7, h8⟩ := h
  have q := h6 e he
  refine ⟨⟨dx, g.keep _ _ h1 fun z => q.1 (hF _ z)⟩, ?_, ⟨ls, g.keep _ _ h3 fun z => q.2.2 (hF _ z), pairs_st g h4⟩, fun f hf => ?_, fun f hf => ?_, fun f hf f' hf' hn => ?_, ?_⟩
  · show H' d = Option.some (.dK (vdict (setV s.vs e.1 v)))
    rw [setV_dict]
    exact g.keep _ _ h2 fun z => q.2.1 (hF _ z)
  · obtain ⟨e', he', e1, e2, c⟩ := setV_mem hf
    rcases c with ⟨c1, c2⟩ | ⟨c1, c2⟩
    · rw [c2, ← e2]
      have : e' = e := by
        have w1 : e'.1 = e.1 := e1.trans c1
        exact nodup_inj h8 he' he w1
      rw [this]
      exact hv
    · rw [c2]
      exact (h5 e' he').st g fun b hb z => h7 e' he' e he (by rw [e1]; exact c1) b hb (hF b z)
  · obtain ⟨e', he', e1, e2, _⟩ := setV_mem hf
    rw [← e2]
    exact h6 e' he'
  · obtain ⟨e', he', e1, e2, _⟩ := setV_mem hf
    obtain ⟨e'', he'', e1', e2', _⟩ := setV_mem hf'
    rw [← e2, ← e2']
    exact h7 e' he' e'' he'' (by rw [e1, e1']; exact hn)
  · show ((setV s.vs e.1 v).map (·.1)).Nodup
    rw [setV_names]
    exact h8
end Mx

namespace Mx
open PySem L2
set_option hygiene false in
local macro_rules | `(tactic| walk_at "rd") => `(tactic| try simp only [L2.start, List.map_cons, List.map_nil, List.length_cons, List.length_nil, Nat.reduceAdd, Nat.reduceSub, Nat.reduceLT, Nat.reduceLeDiff, List.replicate_succ, List.replicate_zero, List.append_nil, List.nil_append, List.cons_append, List.set_cons_zero, List.set_cons_succ, List.getElem?_cons_zero, List.getElem?_cons_succ,
  Option.some.injEq, List.cons.injEq, and_true, true_and, and_assoc, reduceCtorEq, L2.V.int.injEq, L2.V.ref.injEq, L2.V.bl.injEq, L2.V.str.injEq, L2.V.ty.injEq, L2.HO.ins.injEq, L2.HO.lst.injEq, L2.HO.tup.injEq, L2.HO.dK.injEq, exists_eq_left', exists_eq_left, exists_eq_right, exists_eq', exists_eq, exists_and_left, exists_and_right, reduceIte, Bool.false_eq_true, Bool.not_true, Bool.not_false,
  L2.tSeq, L2.tIfS, L2.tRet, L2.tRetN, L2.tNext, L2.tAsg, L2.gName, L2.tVar, L2.tC, L2.tCons, L2.tNil, L2.tCB, L2.tOp, L2.tUn, L2.tTup, L2.tLst, L2.tB, L2.tOr, L2.tAnd, L2.tNot, L2.tAndV, L2.tOrV, L2.tNotV, L2.tIf, L2.tTest, L2.tChain, L2.rI, L2.rI0, L2.rU, L2.tDrop, L2.tNever, L2.tCall, L2.tMeth, L2.tMake, L2.rGcd, L2.tFld, L2.sFld, L2.sFldAug, Mx.sFldA, Mx.sFldAugA, L2.rAdd, L2.rSub, L2.rEq, L2.rNe, L2.tDGet, L2.tDIn, L2.tDNotIn, L2.sDPut,
  Mx.isi_int_bool, Mx.isi_int_int, Mx.isi_int_tuple, Mx.isi_int_list, Mx.isi_int_str, Mx.scal_int, Mx.scal_str, Mx.scal_bl, Mx.ofString_inj, Mx.ofString_beq, Mx.lk_cons, Mx.pf_nil, Mx.pf_cons, Mx.sz1, Mx.sz2, List.lookup_nil, String.reduceEq, decide_true, decide_false, decide_eq_true_eq, Int.natAbs_natCast, L2.upd_same, L2.upd_upd, L2.cxOf])
set_option hygiene false in
local macro_rules | `(tactic| walk_at "rds") => `(tactic| try simp only [L2.start, List.map_cons, List.map_nil, List.length_cons, List.length_nil, Nat.reduceAdd, Nat.reduceSub, Nat.reduceLT, Nat.reduceLeDiff, List.replicate_succ, List.replicate_zero, List.append_nil, List.nil_append, List.cons_append, List.set_cons_zero, List.set_cons_succ, List.getElem?_cons_zero, List.getElem?_cons_succ,
  Option.some.injEq, List.cons.injEq, and_true, true_and, and_assoc, reduceCtorEq, L2.V.int.injEq, L2.V.ref.injEq, L2.V.bl.injEq, L2.V.str.injEq, L2.V.ty.injEq, L2.HO.ins.injEq, L2.HO.lst.injEq, L2.HO.tup.injEq, L2.HO.dK.injEq, exists_eq_left', exists_eq_left, exists_eq_right, exists_eq', exists_eq, exists_and_left, exists_and_right, reduceIte, Bool.false_eq_true, Bool.not_true, Bool.not_false,
  L2.tSeq, L2.tIfS, L2.tRet, L2.tRetN, L2.tNext, L2.tAsg, L2.gName, L2.tVar, L2.tC, L2.tCons, L2.tNil, L2.tCB, L2.tOp, L2.tUn, L2.tTup, L2.tLst, L2.tB, L2.tOr, L2.tAnd, L2.tNot, L2.tAndV, L2.tOrV, L2.tNotV, L2.tIf, L2.tTest, L2.tChain, L2.rI, L2.rI0, L2.rU, L2.tDrop, L2.tNever, L2.tCall, L2.tMeth, L2.tMake, L2.rGcd, L2.tFld, L2.sFld, L2.sFldAug, Mx.sFldA, Mx.sFldAugA, L2.rAdd, L2.rSub, L2.rEq, L2.rNe, L2.tDGet, L2.tDIn, L2.tDNotIn, L2.sDPut,
  Mx.isi_int_bool, Mx.isi_int_int, Mx.isi_int_tuple, Mx.isi_int_list, Mx.isi_int_str, Mx.scal_int, Mx.scal_str, Mx.scal_bl, Mx.ofString_inj, Mx.ofString_beq, Mx.lk_cons, Mx.pf_nil, Mx.pf_cons, Mx.sz1, Mx.sz2, List.lookup_nil, String.reduceEq, decide_true, decide_false, decide_eq_true_eq, Int.natAbs_natCast, L2.upd_same, L2.upd_upd, L2.cxOf, *])

section
variable {P : Program} {w : World} {K : PySem.W.Frag} {mg : Str → Option Value} {base : Heap}
/-! what lets whole numbers within bounds by -/
def sp_in (lo hi : Int) : Sp := fun vs H Q _ => ∃ n : Int, vs = [.int n] ∧ lo ≤ n ∧ n ≤ hi ∧ Q .non H
theorem sc_check_soft : FnScope ["soft"] ["soft"] (defScope s_check_soft) := ⟨rfl, rfl, rfl, by decide +kernel, rfl, by decide +kernel, by decide +kernel⟩
theorem ok_check_soft {f : Addr} {fd : FuncData} (F : Fun K "check_soft" "check_soft" s_check_soft f fd) (G : OwnF P w K mg base "is_whole" 1 ["number", "low", "high"] sp_is_whole) : FnOk P w K mg base CX0 2 f fd ["soft"] (sp_in 1 16) := by
  refine F.ok sc_check_soft (fun vs H Q E h => ?_) (fun cdv A outer s H vs Q E hr h => ?_)
  · obtain ⟨n, rfl, _⟩ := h
    rfl
  · obtain ⟨n, rfl, h1, h2, k⟩ := h
    refine ⟨_, pss_one (ps_if (pt_not (pt_val (p_call G hr (pa_cons (pv 0) (pa_cons pe_int (pa_cons pe_int pa_nil)))))) (pss_one ps_never) pss_nil), ?_⟩
    refine ⟨_, rfl, n, 1, 16, rfl, _, rfl, ?_⟩
    rw [decide_eq_true (show 1 ≤ n ∧ n ≤ 16 from ⟨h1, h2⟩)]
    exact iteF k
theorem sc_check_name : FnScope ["name"] ["name"] (defScope s_check_name) := ⟨rfl, rfl, rfl, by decide +kernel, rfl, by decide +kernel, by decide +kernel⟩
theorem ok_check_name {f : Addr} {fd : FuncData} (F : Fun K "check_name" "check_name" s_check_name f fd) (G : OwnF P w K mg base "is_whole" 1 ["number", "low", "high"] sp_is_whole) : FnOk P w K mg base CX0 2 f fd ["name"] (sp_in 0 5) := by
  refine F.ok sc_check_name (fun vs H Q E h => ?_) (fun cdv A outer s H vs Q E hr h => ?_)
  · obtain ⟨n, rfl, _⟩ := h
    rfl
  · obtain ⟨n, rfl, h1, h2, k⟩ := h
    refine ⟨_, pss_one (ps_if (pt_not (pt_val (p_call G hr (pa_cons (pv 0) (pa_cons pe_int (pa_cons pe_int pa_nil)))))) (pss_one ps_never) pss_nil), ?_⟩
    refine ⟨_, rfl, n, 0, 5, rfl, _, rfl, ?_⟩
    rw [decide_eq_true (show 0 ≤ n ∧ n ≤ 5 from ⟨h1, h2⟩)]
    exact iteF k
theorem sc_check_wait : FnScope ["wait"] ["wait"] (defScope s_check_wait) := ⟨rfl, rfl, rfl, by decide +kernel, rfl, by decide +kernel, by decide +kernel⟩
theorem ok_check_wait {f : Addr} {fd : FuncData} (F : Fun K "check_wait" "check_wait" s_check_wait f fd) (G : OwnF P w K mg base "is_whole" 1 ["number", "low", "high"] sp_is_whole) : FnOk P w K mg base CX0 2 f fd ["wait"] (sp_in 0 64) := by
  refine F.ok sc_check_wait (fun vs H Q E h => ?_) (fun cdv A outer s H vs Q E hr h => ?_)
  · obtain ⟨n, rfl, _⟩ := h
    rfl
  · obtain ⟨n, rfl, h1, h2, k⟩ := h
    refine ⟨_, pss_one (ps_if (pt_not (pt_val (p_call G hr (pa_cons (pv 0) (pa_cons pe_int (pa_cons pe_int pa_nil)))))) (pss_one ps_never) pss_nil), ?_⟩
    refine ⟨_, rfl, n, 0, 64, rfl, _, rfl, ?_⟩
    rw [decide_eq_true (show 0 ≤ n ∧ n ≤ 64 from ⟨h1, h2⟩)]
    exact iteF k
theorem sc_check_loudness : FnScope ["loudness"] ["loudness"] (defScope s_check_loudness) := ⟨rfl, rfl, rfl, by decide +kernel, rfl, by decide +kernel, by decide +kernel⟩
theorem ok_check_loudness {f : Addr} {fd : FuncData} (F : Fun K "check_loudness" "check_loudness" s_check_loudness f fd) (G : OwnF P w K mg base "is_whole" 1 ["number", "low", "high"] sp_is_whole) : FnOk P w K mg base CX0 2 f fd ["loudness"] (sp_in 0 64) := by
  refine F.ok sc_check_loudness (fun vs H Q E h => ?_) (fun cdv A outer s H vs Q E hr h => ?_)
  · obtain ⟨n, rfl, _⟩ := h
    rfl
  · obtain ⟨n, rfl, h1, h2, k⟩ := h
    refine ⟨_, pss_one (ps_if (pt_not (pt_val (p_call G hr (pa_cons (pv 0) (pa_cons pe_int (pa_cons pe_int pa_nil)))))) (pss_one ps_never) pss_nil), ?_⟩
    refine ⟨_, rfl, n, 0, 64, rfl, _, rfl, ?_⟩
    rw [decide_eq_true (show 0 ≤ n ∧ n ≤ 64 from ⟨h1, h2⟩)]
    exact iteF k
def sp_check_pace : Sp := fun vs H Q _ => ∃ (t : Addr) (pn pb : Int), vs = [.ref t] ∧ H t = some (.tup [.int pn, .int pb]) ∧ (1 ≤ pn ∧ pn ≤ 8) ∧ (1 ≤ pb ∧ pb ≤ 8) ∧ ∀ H', Stp [] H H' → Q .non H'
theorem sc_check_pace : FnScope ["pace", "number"] ["pace"] (defScope s_check_pace) := ⟨rfl, rfl, rfl, by decide +kernel, rfl, by decide +kernel, by decide +kernel⟩
theorem ok_check_pace {f : Addr} {fd : FuncData} (F : Fun K "check_pace" "check_pace" s_check_pace f fd) (B : Blt mg) (G : OwnF P w K mg base "is_whole" 1 ["number", "low", "high"] sp_is_whole) : FnOk P w K mg base CX0 2 f fd ["pace"] sp_check_pace := by
  refine F.ok sc_check_pace (fun vs H Q E h => ?_) (fun cdv A outer s H vs Q E hr h => ?_)
  · obtain ⟨t, pn, pb, rfl, _⟩ := h
    rfl
  · obtain ⟨t, pn, pb, rfl, ht, h1, h2, k⟩ := h
    refine ⟨_, pss_cons (ps_if (PW.pt (pw_or (pt_not (pt_val (b_isi B (pv 0) B.tuple PyProof.Rows.boot_tuple))) (pw_or1 (pt_cmpR op_ne (pe_callB call_len_seq (by rfl) B.len PySem.boot_len (pa_cons (pv 0) pa_nil)) pe_int (nomark _))))) (pss_one ps_never) pss_nil)
      (pss_one (ps_if (pt_not (pt_val (pe_callB (cr_all rfl) (by rfl) B.all PyProof.Rows.boot_all (pa_cons (pe_lc (own := [("number", 1)]) (te := tCall sp_is_whole [] E0 (tCons (tVar 1) (tCons (tC (.int 1)) (tCons (tC (.int 8)) tNil)))) rfl sc_check_pace.nd (pi_tup (pv 0)) (blkOk_by (N := ["pace", "number"]) (sc := defScope s_check_pace) (by decide +kernel))
        (fun _ _ _ _ _ => pg_name (i := 1) sc_check_pace.nd rfl (.inl rfl)) (fun _ _ _ _ _ => pts_nil) (fun _ _ _ _ _ => p_call G hr (pa_cons (pv 1) (pa_cons pe_int (pa_cons pe_int pa_nil))))) pa_nil)))) (pss_one ps_never) pss_nil)), ?_⟩
    walk_at "rd"
    refine isi_tup ht ?_
    walk_at "rd"
    refine ⟨_, .inr (.inl (.inl ht)), ?_⟩
    walk_at "rd"
    refine ⟨_, rfl, t, rfl, ⟨_, .inl (.inl ht)⟩, lc_pureT (K := K) (a := t) (H9 := H) (i := 1) (te := tCall sp_is_whole [] E0 (tCons (tVar 1) (tCons (tC (.int 1)) (tCons (tC (.int 8)) tNil)))) (σ := [some (.ref t), none]) (Q := fun x H1 => rAll K [x] H1 _) (fun _ => .bl true) ht (by show 2 ≤ 100000; decide) (fun x hx H1 Q' hs q => ?_) (fun D H1 hD hs1 hl1 => ?_)⟩
    · refine ⟨_, rfl, ?_⟩
      rcases List.mem_cons.mp hx with e | hx
      · subst e
        refine ⟨pn, 1, 8, rfl, ?_⟩
        rw [decide_eq_true h1]
        exact q
      · rw [List.mem_singleton.mp hx]
        refine ⟨pb, 1, 8, rfl, ?_⟩
        rw [decide_eq_true h2]
        exact q
    · refine ⟨D, [true, true], rfl, .inl (.inl hl1), _, rfl, iteF ?_⟩
      exact k H1 hs1

end
end Mx

namespace Mx
open PySem L2
theorem vdict_get {vs : List MV} (h : (vs.map (·.1)).Nodup) {e : MV} (he : e ∈ vs) : valV (vdict vs) (Sum.inl e.1 : Key) = some (.ref e.2.1.a) := by
  unfold valV vdict
  induction vs with
  | nil => cases he
  | cons x r ih =>
    rw [List.map_cons, List.nodup_cons] at h
    rcases List.mem_cons.mp he with a | a
    · subst a
      simp
    · have : x.1 ≠ e.1 := fun z => h.1 (List.mem_map.mpr ⟨e, a, z.symm⟩)
      rw [List.map_cons, List.find?_cons_of_neg (by simpa using this)]
      exact ih h.2 a
theorem vdict_no {vs : List MV} {n : Int} (h : n ∉ vs.map (·.1)) : valV (vdict vs) (Sum.inl n : Key) = none := by
  unfold valV vdict
  induction vs with
  | nil => rfl
  | cons x r ih =>
    rw [List.map_cons, List.mem_cons, not_or] at h
    rw [List.map_cons, List.find?_cons_of_neg (by simpa using Ne.symm h.1)]
    exact ih h.2
theorem vdict_put {vs : List MV} {n : Int} {A : VA} {v : VoiceS} (h : n ∉ vs.map (·.1)) : putK (vdict vs) (Sum.inl n : Key) (V.ref A.a) = vdict (vs ++ [(n, A, v)]) := by
  rw [putK_new _ (vdict_no h)]
  simp [vdict]
structure TM (K : PySem.W.Frag) (C : Addr) : Prop where
  cl : Cls K C
  a1 : NoAttr K C "soft"
  a2 : NoAttr K C "coming"
  a3 : NoAttr K C "voices"
  a4 : NoAttr K C "lacked"
set_option hygiene false in
local macro_rules | `(tactic| walk_at "rd") => `(tactic| try simp only [L2.start, List.map_cons, List.map_nil, List.length_cons, List.length_nil, Nat.reduceAdd, Nat.reduceSub, Nat.reduceLT, Nat.reduceLeDiff, List.replicate_succ, List.replicate_zero, List.append_nil, List.nil_append, List.cons_append, List.set_cons_zero, List.set_cons_succ, List.getElem?_cons_zero, List.getElem?_cons_succ,
  Option.some.injEq, List.cons.injEq, and_true, true_and, and_assoc, reduceCtorEq, L2.V.int.injEq, L2.V.ref.injEq, L2.V.bl.injEq, L2.V.str.injEq, L2.V.ty.injEq, L2.HO.ins.injEq, L2.HO.lst.injEq, L2.HO.tup.injEq, L2.HO.dK.injEq, exists_eq_left', exists_eq_left, exists_eq_right, exists_eq', exists_eq, exists_and_left, exists_and_right, reduceIte, Bool.false_eq_true, Bool.not_true, Bool.not_false,
  L2.tSeq, L2.tIfS, L2.tRet, L2.tRetN, L2.tNext, L2.tAsg, L2.gName, L2.tVar, L2.tC, L2.tCons, L2.tNil, L2.tCB, L2.tOp, L2.tUn, L2.tTup, L2.tLst, L2.tB, L2.tOr, L2.tAnd, L2.tNot, L2.tAndV, L2.tOrV, L2.tNotV, L2.tIf, L2.tTest, L2.tChain, L2.rI, L2.rI0, L2.rU, L2.tDrop, L2.tNever, L2.tCall, L2.tMeth, L2.tMake, L2.rGcd, L2.tFld, L2.sFld, L2.sFldAug, Mx.sFldA, Mx.sFldAugA, L2.rAdd, L2.rSub, L2.rEq, L2.rNe, L2.tDGet, L2.tDIn, L2.tDNotIn, L2.sDPut,
  Mx.isi_int_bool, Mx.isi_int_int, Mx.isi_int_tuple, Mx.isi_int_list, Mx.isi_int_str, Mx.scal_int, Mx.scal_str, Mx.scal_bl, Mx.ofString_inj, Mx.ofString_beq, Mx.lk_cons, Mx.pf_nil, Mx.pf_cons, Mx.sz1, Mx.sz2, List.lookup_nil, String.reduceEq, decide_true, decide_false, decide_eq_true_eq, Int.natAbs_natCast, L2.upd_same, L2.upd_upd, L2.cxOf, Mx.fsM, Mx.fsV, Mx.fsL])
set_option hygiene false in
local macro_rules | `(tactic| walk_at "rds") => `(tactic| try simp only [L2.start, List.map_cons, List.map_nil, List.length_cons, List.length_nil, Nat.reduceAdd, Nat.reduceSub, Nat.reduceLT, Nat.reduceLeDiff, List.replicate_succ, List.replicate_zero, List.append_nil, List.nil_append, List.cons_append, List.set_cons_zero, List.set_cons_succ, List.getElem?_cons_zero, List.getElem?_cons_succ,
  Option.some.injEq, List.cons.injEq, and_true, true_and, and_assoc, reduceCtorEq, L2.V.int.injEq, L2.V.ref.injEq, L2.V.bl.injEq, L2.V.str.injEq, L2.V.ty.injEq, L2.HO.ins.injEq, L2.HO.lst.injEq, L2.HO.tup.injEq, L2.HO.dK.injEq, exists_eq_left', exists_eq_left, exists_eq_right, exists_eq', exists_eq, exists_and_left, exists_and_right, reduceIte, Bool.false_eq_true, Bool.not_true, Bool.not_false,
  L2.tSeq, L2.tIfS, L2.tRet, L2.tRetN, L2.tNext, L2.tAsg, L2.gName, L2.tVar, L2.tC, L2.tCons, L2.tNil, L2.tCB, L2.tOp, L2.tUn, L2.tTup, L2.tLst, L2.tB, L2.tOr, L2.tAnd, L2.tNot, L2.tAndV, L2.tOrV, L2.tNotV, L2.tIf, L2.tTest, L2.tChain, L2.rI, L2.rI0, L2.rU, L2.tDrop, L2.tNever, L2.tCall, L2.tMeth, L2.tMake, L2.rGcd, L2.tFld, L2.sFld, L2.sFldAug, Mx.sFldA, Mx.sFldAugA, L2.rAdd, L2.rSub, L2.rEq, L2.rNe, L2.tDGet, L2.tDIn, L2.tDNotIn, L2.sDPut,
  Mx.isi_int_bool, Mx.isi_int_int, Mx.isi_int_tuple, Mx.isi_int_list, Mx.isi_int_str, Mx.scal_int, Mx.scal_str, Mx.scal_bl, Mx.ofString_inj, Mx.ofString_beq, Mx.lk_cons, Mx.pf_nil, Mx.pf_cons, Mx.sz1, Mx.sz2, List.lookup_nil, String.reduceEq, decide_true, decide_false, decide_eq_true_eq, Int.natAbs_natCast, L2.upd_same, L2.upd_upd, L2.cxOf, Mx.fsM, Mx.fsV, Mx.fsL, *])

section
variable {P : Program} {w : World} {K : PySem.W.Frag} {mg : Str → Option Value} {base : Heap} {cs : Cs}
/-! a mixer is made -/
def sp_Mixer_init (K : PySem.W.Frag) (cs : Cs) : Sp := fun vs H Q _ => ∃ (m dx : Addr) (soft : Int), vs = [.ref m, .int soft] ∧ H m = some (.ins cs.M dx []) ∧ 1 ≤ soft ∧ soft ≤ 16 ∧
  ∀ d k H', H d = none → H k = none → MixAt K cs H' m d k ⟨soft, 0, [], []⟩ → Stp [m] H H' → Q .non H'
theorem sc_Mixer_init : FnScope ["self", "soft"] ["self", "soft"] (defScope s_Mixer_init) := ⟨rfl, rfl, rfl, by decide +kernel, rfl, by decide +kernel, by decide +kernel⟩
theorem ok_Mixer_init {f : Addr} {fd : FuncData} (F : Fun K "__init__" "Mixer.__init__" s_Mixer_init f fd) (T : TM K cs.M) (G : OwnF P w K mg base "check_soft" 2 ["soft"] (sp_in 1 16)) : FnOk P w K mg base CX0 3 f fd ["self", "soft"] (sp_Mixer_init K cs) := by
  refine F.ok sc_Mixer_init (fun vs H Q E h => ?_) (fun cdv A outer s H vs Q E hr h => ?_)
  · obtain ⟨m, dx, soft, rfl, _⟩ := h
    rfl
  · obtain ⟨m, dx, soft, rfl, hm, hs1, hs2, k⟩ := h
    obtain ⟨cl, a1, a2, a3, a4⟩ := T
    refine ⟨_, pss_cons (ps_expr (p_call G hr (pa_cons (pv 1) pa_nil))) (pss_cons (ps_fldA (pv 0) (pv 1) rfl) (pss_cons (ps_fldA (pv 0) pe_int rfl) (pss_cons (ps_fldA (pv 0) pe_dnewK rfl) (pss_one (ps_fldA (pv 0) (pe_lst pa_nil) rfl))))), ?_⟩
    refine ⟨_, rfl, soft, rfl, hs1, hs2, ?_⟩
    walk_at "rds"
    intro H1 g1 s1
    walk_at "rds"
    intro H2 g2 s2
    walk_at "rds"
    intro d hd
    have s3 := Stp.new (o := .dK []) hd
    have e3 : upd H2 d (.dK []) d = some (.dK []) := upd_same
    have g3 := s3.keep _ _ g2 (by simp)
    generalize upd H2 d (.dK []) = H3 at *
    have hdm : m ≠ d := ne_of_none g2 hd
    walk_at "rds"
    intro H4 g4 s4
    walk_at "rds"
    refine ⟨by decide, fun l hl => ?_⟩
    have s5 := Stp.new (o := .lst []) hl
    have e5 : upd H4 l (.lst []) l = some (.lst []) := upd_same
    have g5 := s5.keep _ _ g4 (by simp)
    have hlm : m ≠ l := ne_of_none g4 hl
    have e4 := s4.keep _ _ e3 (by simpa using hdm.symm)
    have hdl : d ≠ l := ne_of_none e4 hl
    generalize upd H4 l (.lst []) = H5 at *
    walk_at "rds"
    intro H6 g6 s6
    have hd0 : H d = none := s1.free (s2.free hd (by simpa using hdm.symm)) (by simpa using hdm.symm)
    have hl0 : H l = none := s1.free (s2.free (s3.free (s4.free hl (by simpa using hlm.symm)) (by simp)) (by simpa using hlm.symm)) (by simpa using hlm.symm)
    refine k d l H6 hd0 hl0 ⟨⟨dx, g6⟩, ?_, ⟨[], ?_, .nil⟩, (by simp), (by simp), (by simp), List.nodup_nil⟩ ?_
    · exact s6.keep _ _ (s5.keep _ _ e4 (by simp)) (by simpa using hdm.symm)
    · exact s6.keep _ _ e5 (by simpa using hlm.symm)
    · exact (s1.trans (s2.trans (s3.trans (s4.trans (s5.trans s6))))).sub (by simp)

/-! its voice of a name -/
def sp_Mixer_voice_of (K : PySem.W.Frag) (cs : Cs) : Sp := fun vs H Q _ => ∃ (m d k : Addr) (s : MixS) (e : MV), vs = [.ref m, .int e.1] ∧ MixAt K cs H m d k s ∧ e ∈ s.vs ∧ 0 ≤ e.1 ∧ e.1 ≤ 5 ∧ Q (.ref e.2.1.a) H
theorem sc_Mixer_voice_of : FnScope ["self", "name"] ["self", "name"] (defScope s_Mixer_voice_of) := ⟨rfl, rfl, rfl, by decide +kernel, rfl, by decide +kernel, by decide +kernel⟩
theorem ok_Mixer_voice_of {f : Addr} {fd : FuncData} (F : Fun K "voice_of" "Mixer.voice_of" s_Mixer_voice_of f fd) (T : TM K cs.M) (G : OwnF P w K mg base "check_name" 2 ["name"] (sp_in 0 5)) : FnOk P w K mg base CX0 3 f fd ["self", "name"] (sp_Mixer_voice_of K cs) := by
  refine F.ok sc_Mixer_voice_of (fun vs H Q E h => ?_) (fun cdv A outer s H vs Q E hr h => ?_)
  · obtain ⟨m, d, k, s, e, rfl, _⟩ := h
    rfl
  · obtain ⟨m, d, k, s, e, rfl, hM, he, h0, h5, q⟩ := h
    obtain ⟨cl, a1, a2, a3, a4⟩ := T
    have hu := hu_of hr
    refine ⟨_, pss_cons (ps_expr (p_call G hr (pa_cons (pv 1) pa_nil))) (pss_cons (ps_if (pt_cmp (pc_dnotin hu (pv 1) (pe_fld (pv 0) rfl))) (pss_one ps_never) pss_nil) (pss_one (ps_ret (pe_dget hu (pe_fld (pv 0) rfl) (pv 1) (fun _ _ => rfl))))), ?_⟩
    obtain ⟨dx, h1⟩ := hM.ob
    have g1 := DGet.k (k := (Sum.inl e.1 : Key)) hM.dv
    rw [vdict_get hM.nm he] at g1
    refine ⟨_, rfl, e.1, rfl, h0, h5, ?_⟩
    walk_at "rds"
    refine ⟨_, g1, ?_⟩
    rw [if_neg (by simp)]
    exact ⟨_, g1, q⟩
end
end Mx

namespace Mx
open PySem L2
set_option hygiene false in
local macro_rules | `(tactic| walk_at "rd") => `(tactic| try simp only [L2.start, List.map_cons, List.map_nil, List.length_cons, List.length_nil, Nat.reduceAdd, Nat.reduceSub, Nat.reduceLT, Nat.reduceLeDiff, List.replicate_succ, List.replicate_zero, List.append_nil, List.nil_append, List.cons_append, List.set_cons_zero, List.set_cons_succ, List.getElem?_cons_zero, List.getElem?_cons_succ,
  Option.some.injEq, List.cons.injEq, and_true, true_and, and_assoc, reduceCtorEq, L2.V.int.injEq, L2.V.ref.injEq, L2.V.bl.injEq, L2.V.str.injEq, L2.V.ty.injEq, L2.HO.ins.injEq, L2.HO.lst.injEq, L2.HO.tup.injEq, L2.HO.dK.injEq, exists_eq_left', exists_eq_left, exists_eq_right, exists_eq', exists_eq, exists_and_left, exists_and_right, reduceIte, Bool.false_eq_true, Bool.not_true, Bool.not_false,
  L2.tSeq, L2.tIfS, L2.tRet, L2.tRetN, L2.tNext, L2.tAsg, L2.gName, L2.tVar, L2.tC, L2.tCons, L2.tNil, L2.tCB, L2.tOp, L2.tUn, L2.tTup, L2.tLst, L2.tB, L2.tOr, L2.tAnd, L2.tNot, L2.tAndV, L2.tOrV, L2.tNotV, L2.tIf, L2.tTest, L2.tChain, L2.rI, L2.rI0, L2.rU, L2.tDrop, L2.tNever, L2.tCall, L2.tMeth, L2.tMake, L2.rGcd, L2.tFld, L2.sFld, L2.sFldAug, Mx.sFldA, Mx.sFldAugA, L2.rAdd, L2.rSub, L2.rEq, L2.rNe, L2.tDGet, L2.tDIn, L2.tDNotIn, L2.sDPut,
  Mx.isi_int_bool, Mx.isi_int_int, Mx.isi_int_tuple, Mx.isi_int_list, Mx.isi_int_str, Mx.scal_int, Mx.scal_str, Mx.scal_bl, Mx.ofString_inj, Mx.ofString_beq, Mx.lk_cons, Mx.pf_nil, Mx.pf_cons, Mx.sz1, Mx.sz2, List.lookup_nil, String.reduceEq, decide_true, decide_false, decide_eq_true_eq, Int.natAbs_natCast, L2.upd_same, L2.upd_upd, L2.cxOf, Mx.fsM, Mx.fsV, Mx.fsL, Mx.optV])
set_option hygiene false in
local macro_rules | `(tactic| walk_at "rds") => `(tactic| try simp only [L2.start, List.map_cons, List.map_nil, List.length_cons, List.length_nil, Nat.reduceAdd, Nat.reduceSub, Nat.reduceLT, Nat.reduceLeDiff, List.replicate_succ, List.replicate_zero, List.append_nil, List.nil_append, List.cons_append, List.set_cons_zero, List.set_cons_succ, List.getElem?_cons_zero, List.getElem?_cons_succ,
  Option.some.injEq, List.cons.injEq, and_true, true_and, and_assoc, reduceCtorEq, L2.V.int.injEq, L2.V.ref.injEq, L2.V.bl.injEq, L2.V.str.injEq, L2.V.ty.injEq, L2.HO.ins.injEq, L2.HO.lst.injEq, L2.HO.tup.injEq, L2.HO.dK.injEq, exists_eq_left', exists_eq_left, exists_eq_right, exists_eq', exists_eq, exists_and_left, exists_and_right, reduceIte, Bool.false_eq_true, Bool.not_true, Bool.not_false,
  L2.tSeq, L2.tIfS, L2.tRet, L2.tRetN, L2.tNext, L2.tAsg, L2.gName, L2.tVar, L2.tC, L2.tCons, L2.tNil, L2.tCB, L2.tOp, L2.tUn, L2.tTup, L2.tLst, L2.tB, L2.tOr, L2.tAnd, L2.tNot, L2.tAndV, L2.tOrV, L2.tNotV, L2.tIf, L2.tTest, L2.tChain, L2.rI, L2.rI0, L2.rU, L2.tDrop, L2.tNever, L2.tCall, L2.tMeth, L2.tMake, L2.rGcd, L2.tFld, L2.sFld, L2.sFldAug, Mx.sFldA, Mx.sFldAugA, L2.rAdd, L2.rSub, L2.rEq, L2.rNe, L2.tDGet, L2.tDIn, L2.tDNotIn, L2.sDPut,
  Mx.isi_int_bool, Mx.isi_int_int, Mx.isi_int_tuple, Mx.isi_int_list, Mx.isi_int_str, Mx.scal_int, Mx.scal_str, Mx.scal_bl, Mx.ofString_inj, Mx.ofString_beq, Mx.lk_cons, Mx.pf_nil, Mx.pf_cons, Mx.sz1, Mx.sz2, List.lookup_nil, String.reduceEq, decide_true, decide_false, decide_eq_true_eq, Int.natAbs_natCast, L2.upd_same, L2.upd_upd, L2.cxOf, Mx.fsM, Mx.fsV, Mx.fsL, Mx.optV, *])

section
variable {P : Program} {w : World} {K : PySem.W.Frag} {mg : Str → Option Value} {base : Heap} {cs : Cs}
/-! a voice that has just been added -/
def VoiceS.new (pn pb b n : Int) : VoiceS := ⟨⟨pn, pb, b, [], 0, none⟩, ⟨mkRat n 64, 0, 0⟩, true, wH, 0, 0, 0⟩
def sp_Mixer_add (K : PySem.W.Frag) (cs : Cs) : Sp := fun vs H Q _ => ∃ (m d k t : Addr) (s : MixS) (n pn pb wt ld : Int), vs = [.ref m, .int n, .ref t, .int wt, .int ld] ∧ MixAt K cs H m d k s ∧ n ∉ s.vs.map (·.1) ∧ 0 ≤ n ∧ n ≤ 5 ∧ H t = some (.tup [.int pn, .int pb]) ∧
  (1 ≤ pn ∧ pn ≤ 8) ∧ (1 ≤ pb ∧ pb ≤ 8) ∧ (0 ≤ wt ∧ wt ≤ 64) ∧ (0 ≤ ld ∧ ld ≤ 64) ∧ s.vs.length ≤ 100 ∧
  ∀ (A : VA) H', (∀ b ∈ A.foot, H b = none) → MixAt K cs H' m d k { s with vs := s.vs ++ [(n, A, VoiceS.new pn pb (s.coming + wt) ld)] } → Stp [d] H H' → Q .non H'
theorem sc_Mixer_add : FnScope ["self", "name", "pace", "wait", "loudness"] ["self", "name", "pace", "wait", "loudness"] (defScope s_Mixer_add) := ⟨rfl, rfl, rfl, by decide +kernel, rfl, by decide +kernel, by decide +kernel⟩
theorem MixAt.grow {H H' : Hp} {m d k : Addr} {s : MixS} (h : MixAt K cs H m d k s) {n : Int} {A : VA} {v : VoiceS} (hn : n ∉ s.vs.map (·.1)) (hA : ∀ b ∈ A.foot, H b = none) (g : Stp [d] H H') (hv : VoiceAt K cs H' A v) (hd : H' d = Option.some (.dK (vdict (s.vs ++ [(n, A, v)])))) :
    MixAt K cs H' m d k { s with vs := s.vs ++ [(n, A, v)] } := by
  have hne := h.ne
  have hsome := h.some
  obtain ⟨⟨dx, h1⟩, h2, ⟨ls, h3, h4⟩, h5, h6, h7, h8⟩ := h
  have no : ∀ b, H b ≠ none → b ∉ A.foot := fun b hb z => hb (hA b z)
  have infoot : ∀ e ∈ s.vs, ∀ b ∈ e.2.1.foot, H b ≠ none := fun e he b hb => (h5 e he).some b hb
  refine ⟨⟨dx, g.keep _ _ h1 (by simpa using hne.1)⟩, hd, ⟨ls, g.keep _ _ h3 (by simpa using hne.2.2.symm), pairs_st g h4⟩, fun e he => ?_, fun e he => ?_, fun e he f hf hnf b hb => ?_, ?_⟩
  · rcases List.mem_append.mp he with he | he
    · refine (h5 e he).st g fun b hb z => ?_
      have := List.mem_singleton.mp z
      subst this
      exact (h6 e he).2.1 hb
    · rw [List.mem_singleton.mp he]
      exact hv
  · rcases List.mem_append.mp he with he | he
    · exact h6 e he
    · rw [List.mem_singleton.mp he]
      exact ⟨no _ (by rw [h1]; exact fun z => nomatch z), no _ (by rw [h2]; exact fun z => nomatch z), no _ (by rw [h3]; exact fun z => nomatch z)⟩
  · rcases List.mem_append.mp he with he | he <;> rcases List.mem_append.mp hf with hf | hf
    · exact h7 e he f hf hnf b hb
    · rw [List.mem_singleton.mp hf]
      exact no b (infoot e he b hb)
    · rw [List.mem_singleton.mp he] at hb
      exact fun z => infoot f hf b z (hA b hb)
    · rw [List.mem_singleton.mp he, List.mem_singleton.mp hf] at hnf
      exact absurd rfl hnf
  · show ((s.vs ++ [(n, A, v)]).map (·.1)).Nodup
    rw [List.map_append, List.nodup_append]
    refine ⟨h8, by simp, fun a ha b hb => ?_⟩
    have hb' : b = n := by simpa using hb
    subst hb'
    rintro rfl
    exact hn ha
theorem ok_Mixer_add {f : Addr} {fd : FuncData} (F : Fun K "add" "Mixer.add" s_Mixer_add f fd) (T : TM K cs.M) (G1 : OwnF P w K mg base "check_name" 2 ["name"] (sp_in 0 5)) (G2 : OwnF P w K mg base "check_pace" 2 ["pace"] sp_check_pace) (G3 : OwnF P w K mg base "check_wait" 2 ["wait"] (sp_in 0 64))
    (G4 : OwnF P w K mg base "check_loudness" 2 ["loudness"] (sp_in 0 64)) (GV : OwnC P w K mg base cs.V "Voice" 4 ["self", "pace", "begin", "loudness"] (sp_Voice_init K cs)) : FnOk P w K mg base CX0 6 f fd ["self", "name", "pace", "wait", "loudness"] (sp_Mixer_add K cs) := by
  refine F.ok sc_Mixer_add (fun vs H Q E h => ?_) (fun cdv A outer s H vs Q E hr h => ?_)
  · obtain ⟨m, d, k, t, s, n, pn, pb, wt, ld, rfl, _⟩ := h
    rfl
  · obtain ⟨m, d, k, t, s, n, pn, pb, wt, ld, rfl, hM, hn, hn0, hn5, ht, hpn, hpb, hw, hl, hlen, q⟩ := h
    obtain ⟨cl, a1, a2, a3, a4⟩ := T
    have hu := hu_of hr
    have hr2 := hr.mono (show 2 ≤ 5 by decide)
    refine ⟨_, pss_cons (ps_expr (p_call G1 hr2 (pa_cons (pv 1) pa_nil))) (pss_cons (ps_if (pt_cmp (pc_din hu (pv 1) (pe_fld (pv 0) rfl))) (pss_one ps_never) pss_nil)
      (pss_cons (ps_expr (p_call G2 hr2 (pa_cons (pv 2) pa_nil))) (pss_cons (ps_expr (p_call G3 hr2 (pa_cons (pv 3) pa_nil))) (pss_cons (ps_expr (p_call G4 hr2 (pa_cons (pv 4) pa_nil)))
      (pss_one (ps_dput hu (pe_fld (pv 0) rfl) (pv 1) (p_make GV hr (pa_cons (pv 2) (pa_cons (pe_op op_add (pe_fld (pv 0) rfl) (pv 3)) (pa_cons (pv 4) pa_nil)))) rfl)))))), ?_⟩
    have hne := hM.ne
    obtain ⟨dx, h1⟩ := id hM.ob
    have g1 := DGet.k (k := (Sum.inl n : Key)) hM.dv
    rw [vdict_no hn] at g1
    refine ⟨_, rfl, n, rfl, hn0, hn5, ?_⟩
    walk_at "rds"
    refine ⟨_, g1, ?_⟩
    rw [if_neg (by simp)]
    refine ⟨t, pn, pb, rfl, ht, hpn, hpb, fun H1 s1 => ?_⟩
    refine ⟨wt, rfl, hw.1, hw.2, ld, rfl, hl.1, hl.2, ?_⟩
    have h1' := s1.keep _ _ h1 (by simp)
    walk_at "rds"
    intro x dv hx hdv hxd
    have s2 := stp_made (C := cs.V) hx hdv
    have e2 : upd (upd H1 dv (.own x)) x (.ins cs.V dv []) x = some (.ins cs.V dv []) := upd_same
    generalize upd (upd H1 dv (.own x)) x (.ins cs.V dv []) = H2 at *
    refine ⟨x, dv, t, pn, pb, s.coming + wt, ld, rfl, e2, s2.tup _ _ (s1.tup _ _ ht), fun A H3 hAx hA hv s3 => ⟨rfl, ?_⟩⟩
    have t2 := s1.trans s2
    have t3 : Stp [] H H3 := (t2.trans s3).subN fun b hb => .inr (by
      have : b = x := by simpa using hb
      rw [this]
      exact s1.free hx (by simp))
    have hA0 : ∀ b ∈ A.foot, H b = none := fun b hb => by
      rcases hA b hb with e | e
      · rw [e]
        exact s1.free hx (by simp)
      · exact t2.free e (by simp)
    have hM3 := hM.st0 t3
    have h3' := t3.keep _ _ h1 (by simp)
    have hd3 := hM3.dv
    walk_at "rds"
    refine ⟨_, DPut.k (k := (Sum.inl n : Key)) hd3 ?_, ?_⟩
    · show (vdict s.vs).length < sizeLine
      rw [show (vdict s.vs).length = s.vs.length from by simp [vdict]]
      exact Nat.lt_of_le_of_lt hlen (by decide)
    have s4 := Stp.put (o := .dK (putK (vdict s.vs) (Sum.inl n : Key) (V.ref x))) hd3 (fun xs z => nomatch z)
    have hdA : d ∉ A.foot := fun z => by
      have := hA0 d z
      rw [hM.dv] at this
      cases this
    have hx' : x = A.a := hAx.symm
    refine q A _ hA0 (MixAt.grow hM hn hA0 ((t3.trans s4).sub (by simp)) (hv.st s4 fun b hb z => hdA (List.mem_singleton.mp z ▸ hb)) ?_) ((t3.trans s4).sub (by simp))
    rw [upd_same, hx', vdict_put hn]

def sp_Mixer_parcel (K : PySem.W.Frag) (cs : Cs) : Sp := fun vs H Q _ => ∃ (m d k a : Addr) (s : MixS) (e : MV) (i : Int) (ns : List Int), vs = [.ref m, .int e.1, .int i, .ref a] ∧ MixAt K cs H m d k s ∧ e ∈ s.vs ∧ 0 ≤ e.1 ∧ e.1 ≤ 5 ∧ SqL K H a (ns.map V.int) ∧ a ∉ e.2.1.foot ∧ ParOk e.2.2.line i ns ∧ e.2.2.line.came.length ≤ 90000 ∧
  ∀ H', MixAt K cs H' m d k { s with vs := setV s.vs e.1 { e.2.2 with line := e.2.2.line.take i ns } } → Stp e.2.1.foot H H' → Q .non H'
theorem sc_Mixer_parcel : FnScope ["self", "name", "place", "numbers"] ["self", "name", "place", "numbers"] (defScope s_Mixer_parcel) := ⟨rfl, rfl, rfl, by decide +kernel, rfl, by decide +kernel, by decide +kernel⟩
theorem nd4 {A : VA} (h : A.foot.Nodup) : A.a ≠ A.l ∧ A.a ≠ A.c ∧ A.a ≠ A.q ∧ A.l ≠ A.c ∧ A.l ≠ A.q ∧ A.c ≠ A.q := by
  simp only [VA.foot, List.nodup_cons, List.mem_cons, List.not_mem_nil, or_false, not_or, List.nodup_nil, and_true, not_false_eq_true] at h
  exact ⟨h.1.1, h.1.2.1, h.1.2.2, h.2.1.1, h.2.1.2, h.2.2⟩
theorem VoiceAt.lined {H H' : Hp} {A : VA} {v : VoiceS} (h : VoiceAt K cs H A v) {l' : LineS} (s : Stp [A.l, A.c] H H') (hl : LineAt cs.L H' A.l A.c l') : VoiceAt K cs H' A { v with line := l' } := by
  obtain ⟨n1, n2, n3, n4, n5, n6⟩ := nd4 h.nd
  obtain ⟨dx, pv, hv, h1, h2, h3⟩ := h.ob
  exact ⟨⟨dx, pv, hv, s.keep _ _ h1 (by simp [n1, n2]), h2.st s, h3.st s⟩, hl, h.loud.st s (by simp [n5.symm, n6.symm]), h.nd⟩
theorem ok_Mixer_parcel {f : Addr} {fd : FuncData} (F : Fun K "parcel" "Mixer.parcel" s_Mixer_parcel f fd) (TVV : TV K cs.V) (G1 : OwnM P w K mg base cs.M "voice_of" 3 ["self", "name"] (sp_Mixer_voice_of K cs)) (G2 : OwnM P w K mg base cs.L "take" 2 ["self", "place", "numbers"] (sp_Line_take K cs.L)) :
    FnOk P w K mg base CX0 4 f fd ["self", "name", "place", "numbers"] (sp_Mixer_parcel K cs) := by
  refine F.ok sc_Mixer_parcel (fun vs H Q E h => ?_) (fun cdv A outer s H vs Q E hr h => ?_)
  · obtain ⟨m, d, k, a, s, e, i, ns, rfl, _⟩ := h
    rfl
  · obtain ⟨m, d, k, a, s, e, i, ns, rfl, hM, he, h0, h5, ha, haf, hP, hlen, q⟩ := h
    refine ⟨_, pss_one (ps_expr (p_meth G2 (hr.mono (by decide)) (pe_fld (p_meth G1 hr (pv 0) (pa_cons (pv 1) pa_nil)) rfl) (pa_cons (pv 2) (pa_cons (pv 3) pa_nil)))), ?_⟩
    obtain ⟨dx, h1⟩ := id hM.ob
    have hv := hM.vo e he
    obtain ⟨n1, n2, n3, n4, n5, n6⟩ := nd4 hv.nd
    obtain ⟨dy, pv', hv', g1, g2, g3⟩ := hv.ob
    obtain ⟨dl, tpl, gl, _⟩ := hv.line.ob
    obtain ⟨cl, a1, _⟩ := TVV
    walk_at "rds"
    refine ⟨m, d, k, s, e, rfl, hM, he, h0, h5, ?_⟩
    walk_at "rds"
    have hal : a ≠ e.2.1.l := fun z => haf (by simp [VA.foot, z])
    have hac : a ≠ e.2.1.c := fun z => haf (by simp [VA.foot, z])
    refine ⟨e.2.1.l, e.2.1.c, a, e.2.2.line, i, ns, rfl, hv.line, ha, hal, hac, hP, hlen, fun H1 hL s1 => ?_⟩
    exact q H1 (hM.turn he s1 (by simp [VA.foot]) (hv.lined s1 hL)) (s1.sub (by simp [VA.foot]))
def sp_Mixer_missed (K : PySem.W.Frag) (cs : Cs) : Sp := fun vs H Q _ => ∃ (m d k : Addr) (s : MixS), vs = [.ref m] ∧ MixAt K cs H m d k s ∧ ∀ p H' ls, H p = none → Stp [] H H' → H' p = some (.lst ls) → Paired (IsPair H') ls s.lacked → Q (.ref p) H'
theorem sc_Mixer_missed : FnScope ["self"] ["self"] (defScope s_Mixer_missed) := ⟨rfl, rfl, rfl, by decide +kernel, rfl, by decide +kernel, by decide +kernel⟩
theorem ok_Mixer_missed {f : Addr} {fd : FuncData} (F : Fun K "missed" "Mixer.missed" s_Mixer_missed f fd) (T : TM K cs.M) (B : Blt mg) : FnOk P w K mg base CX0 1 f fd ["self"] (sp_Mixer_missed K cs) := by
  refine F.ok sc_Mixer_missed (fun vs H Q E h => ?_) (fun cdv A outer s H vs Q E hr h => ?_)
  · obtain ⟨m, d, k, s, rfl, _⟩ := h
    rfl
  · obtain ⟨m, d, k, s, rfl, hM, q⟩ := h
    obtain ⟨cl, a1, a2, a3, a4⟩ := T
    refine ⟨_, pss_one (ps_ret (pe_callTy call_list_of (by rfl) B.list PyProof.Rows.boot_list (pa_cons (pe_fld (pv 0) rfl) pa_nil))), ?_⟩
    obtain ⟨dx, h1⟩ := id hM.ob
    obtain ⟨ls, hl, hp⟩ := hM.lk
    walk_at "rds"
    refine ⟨ls, .inl (.inl (.inl hl)), fun p hp0 => ?_⟩
    have s1 := Stp.new (o := .lst ls) hp0
    exact q p _ ls hp0 s1 upd_same (pairs_st s1 hp)
end
end Mx

namespace Mx
open PySem L2
set_option hygiene false in
local macro_rules | `(tactic| walk_at "rd") => `(tactic| try simp only [L2.start, List.map_cons, List.map_nil, List.length_cons, List.length_nil, Nat.reduceAdd, Nat.reduceSub, Nat.reduceLT, Nat.reduceLeDiff, List.replicate_succ, List.replicate_zero, List.append_nil, List.nil_append, List.cons_append, List.set_cons_zero, List.set_cons_succ, List.getElem?_cons_zero, List.getElem?_cons_succ,
  Option.some.injEq, List.cons.injEq, and_true, true_and, and_assoc, reduceCtorEq, L2.V.int.injEq, L2.V.ref.injEq, L2.V.bl.injEq, L2.V.str.injEq, L2.V.ty.injEq, L2.HO.ins.injEq, L2.HO.lst.injEq, L2.HO.tup.injEq, L2.HO.dK.injEq, exists_eq_left', exists_eq_left, exists_eq_right, exists_eq', exists_eq, exists_and_left, exists_and_right, reduceIte, Bool.false_eq_true, Bool.not_true, Bool.not_false,
  L2.tSeq, L2.tIfS, L2.tRet, L2.tRetN, L2.tNext, L2.tAsg, L2.gName, L2.tVar, L2.tC, L2.tCons, L2.tNil, L2.tCB, L2.tOp, L2.tUn, L2.tTup, L2.tLst, L2.tB, L2.tOr, L2.tAnd, L2.tNot, L2.tAndV, L2.tOrV, L2.tNotV, L2.tIf, L2.tTest, L2.tChain, L2.rI, L2.rI0, L2.rU, L2.tDrop, L2.tNever, L2.tCall, L2.tMeth, L2.tMake, L2.rGcd, L2.tFld, L2.sFld, L2.sFldAug, Mx.sFldA, Mx.sFldAugA, L2.rAdd, L2.rSub, L2.rEq, L2.rNe, L2.tDGet, L2.tDIn, L2.tDNotIn, L2.sDPut,
  Mx.isi_int_bool, Mx.isi_int_int, Mx.isi_int_tuple, Mx.isi_int_list, Mx.isi_int_str, Mx.scal_int, Mx.scal_str, Mx.scal_bl, Mx.ofString_inj, Mx.ofString_beq, Mx.lk_cons, Mx.pf_nil, Mx.pf_cons, Mx.sz1, Mx.sz2, List.lookup_nil, String.reduceEq, decide_true, decide_false, decide_eq_true_eq, Int.natAbs_natCast, L2.upd_same, L2.upd_upd, L2.cxOf, Mx.fsM, Mx.fsV, Mx.fsL, Mx.optV])
set_option hygiene false in
local macro_rules | `(tactic| walk_at "rds") => `(tactic| try simp only [L2.start, List.map_cons, List.map_nil, List.length_cons, List.length_nil, Nat.reduceAdd, Nat.reduceSub, Nat.reduceLT, Nat.reduceLeDiff, List.replicate_succ, List.replicate_zero, List.append_nil, List.nil_append, List.cons_append, List.set_cons_zero, List.set_cons_succ, List.getElem?_cons_zero, List.getElem?_cons_succ,
  Option.some.injEq, List.cons.injEq, and_true, true_and, and_assoc, reduceCtorEq, L2.V.int.injEq, L2.V.ref.injEq, L2.V.bl.injEq, L2.V.str.injEq, L2.V.ty.injEq, L2.HO.ins.injEq, L2.HO.lst.injEq, L2.HO.tup.injEq, L2.HO.dK.injEq, exists_eq_left', exists_eq_left, exists_eq_right, exists_eq', exists_eq, exists_and_left, exists_and_right, reduceIte, Bool.false_eq_true, Bool.not_true, Bool.not_false,
  L2.tSeq, L2.tIfS, L2.tRet, L2.tRetN, L2.tNext, L2.tAsg, L2.gName, L2.tVar, L2.tC, L2.tCons, L2.tNil, L2.tCB, L2.tOp, L2.tUn, L2.tTup, L2.tLst, L2.tB, L2.tOr, L2.tAnd, L2.tNot, L2.tAndV, L2.tOrV, L2.tNotV, L2.tIf, L2.tTest, L2.tChain, L2.rI, L2.rI0, L2.rU, L2.tDrop, L2.tNever, L2.tCall, L2.tMeth, L2.tMake, L2.rGcd, L2.tFld, L2.sFld, L2.sFldAug, Mx.sFldA, Mx.sFldAugA, L2.rAdd, L2.rSub, L2.rEq, L2.rNe, L2.tDGet, L2.tDIn, L2.tDNotIn, L2.sDPut,
  Mx.isi_int_bool, Mx.isi_int_int, Mx.isi_int_tuple, Mx.isi_int_list, Mx.isi_int_str, Mx.scal_int, Mx.scal_str, Mx.scal_bl, Mx.ofString_inj, Mx.ofString_beq, Mx.lk_cons, Mx.pf_nil, Mx.pf_cons, Mx.sz1, Mx.sz2, List.lookup_nil, String.reduceEq, decide_true, decide_false, decide_eq_true_eq, Int.natAbs_natCast, L2.upd_same, L2.upd_upd, L2.cxOf, Mx.fsM, Mx.fsV, Mx.fsL, Mx.optV, *])

section
variable {P : Program} {w : World} {K : PySem.W.Frag} {mg : Str → Option Value} {base : Heap} {cs : Cs} {C : Addr}
/-! how many numbers there are -/
def sp_Line_close (C : Addr) : Sp := fun vs H Q _ => ∃ (l c : Addr) (s : LineS) (n : Int), vs = [.ref l, .int n] ∧ LineAt C H l c s ∧ s.many = none ∧ 1 ≤ n ∧ n ≤ 1000 ∧ s.reach ≤ n ∧ ∀ H', LineAt C H' l c { s with many := some n } → Stp [l] H H' → Q .non H'
theorem sc_Line_close : FnScope ["self", "many"] ["self", "many"] (defScope s_Line_close) := ⟨rfl, rfl, rfl, by decide +kernel, rfl, by decide +kernel, by decide +kernel⟩
theorem ok_Line_close {f : Addr} {fd : FuncData} (F : Fun K "close" "Line.close" s_Line_close f fd) (T : TL K C) (TT : TC K mg) (G : OwnF P w K mg base "is_whole" 1 ["number", "low", "high"] sp_is_whole) : FnOk P w K mg base CX0 2 f fd ["self", "many"] (sp_Line_close C) := by
  refine F.ok sc_Line_close (fun vs H Q E h => ?_) (fun cdv A outer s H vs Q E hr h => ?_)
  · obtain ⟨l, c, s, n, rfl, _⟩ := h
    rfl
  · obtain ⟨l, c, s, n, rfl, hL, hm, hn1, hn2, hre, k⟩ := h
    obtain ⟨tM, hM⟩ := TT.most
    obtain ⟨cl, a1, a3, a4, a5, a6⟩ := T
    refine ⟨_, pss_cons (ps_if (pt_cmpR op_notN (pe_fld (pv 0) rfl) pe_non (nomark _)) (pss_one ps_never) pss_nil)
      (pss_cons (ps_if (pt_not (pt_val (p_call G hr (pa_cons (pv 1) (pa_cons pe_int (pa_cons (pe_glob (v := .int 1000) (by rfl) hM ⟨_, rfl⟩) pa_nil)))))) (pss_one ps_never) pss_nil)
      (pss_cons (ps_if (pt_cmpR op_lt (pv 1) (pe_fld (pv 0) rfl) (nomark _)) (pss_one ps_never) pss_nil)
      (pss_one (ps_fldA (pv 0) (pv 1) rfl)))), ?_⟩
    have hne := hL.ne
    obtain ⟨dx, tp, h1, htp⟩ := id hL.ob
    walk_at "rds"
    refine ⟨n, 1, 1000, rfl, _, rfl, ?_⟩
    rw [decide_eq_true (show 1 ≤ n ∧ n ≤ 1000 from ⟨hn1, hn2⟩)]
    refine iteF ?_
    walk_at "rds"
    rw [if_neg (show ¬ n < s.reach by omega)]
    intro H1 g1 s1
    exact k H1 ⟨⟨dx, tp, g1, s1.tup _ _ htp⟩, s1.keep _ _ hL.dc (by simpa using hne.symm)⟩ s1
def sp_Mixer_end (K : PySem.W.Frag) (cs : Cs) : Sp := fun vs H Q _ => ∃ (m d k : Addr) (s : MixS) (e : MV) (n : Int), vs = [.ref m, .int e.1, .int n] ∧ MixAt K cs H m d k s ∧ e ∈ s.vs ∧ 0 ≤ e.1 ∧ e.1 ≤ 5 ∧ e.2.2.line.many = none ∧ 1 ≤ n ∧ n ≤ 1000 ∧ e.2.2.line.reach ≤ n ∧
  ∀ H', MixAt K cs H' m d k { s with vs := setV s.vs e.1 { e.2.2 with line := { e.2.2.line with many := some n } } } → Stp e.2.1.foot H H' → Q .non H'
theorem sc_Mixer_end : FnScope ["self", "name", "many"] ["self", "name", "many"] (defScope s_Mixer_end) := ⟨rfl, rfl, rfl, by decide +kernel, rfl, by decide +kernel, by decide +kernel⟩
theorem ok_Mixer_end {f : Addr} {fd : FuncData} (F : Fun K "end" "Mixer.end" s_Mixer_end f fd) (TVV : TV K cs.V) (G1 : OwnM P w K mg base cs.M "voice_of" 3 ["self", "name"] (sp_Mixer_voice_of K cs)) (G2 : OwnM P w K mg base cs.L "close" 2 ["self", "many"] (sp_Line_close cs.L)) :
    FnOk P w K mg base CX0 4 f fd ["self", "name", "many"] (sp_Mixer_end K cs) := by
  refine F.ok sc_Mixer_end (fun vs H Q E h => ?_) (fun cdv A outer s H vs Q E hr h => ?_)
  · obtain ⟨m, d, k, s, e, n, rfl, _⟩ := h
    rfl
  · obtain ⟨m, d, k, s, e, n, rfl, hM, he, h0, h5, hm, hn1, hn2, hre, q⟩ := h
    refine ⟨_, pss_one (ps_expr (p_meth G2 (hr.mono (by decide)) (pe_fld (p_meth G1 hr (pv 0) (pa_cons (pv 1) pa_nil)) rfl) (pa_cons (pv 2) pa_nil))), ?_⟩
    obtain ⟨dx, h1⟩ := id hM.ob
    have hv := hM.vo e he
    obtain ⟨dy, pv', hv', g1, g2, g3⟩ := hv.ob
    obtain ⟨dl, tpl, gl, _⟩ := hv.line.ob
    obtain ⟨cl, a1, _⟩ := TVV
    walk_at "rds"
    refine ⟨m, d, k, s, e, rfl, hM, he, h0, h5, ?_⟩
    walk_at "rds"
    refine ⟨e.2.1.l, e.2.1.c, e.2.2.line, n, rfl, hv.line, hm, hn1, hn2, hre, fun H1 hL s1 => ?_⟩
    have s2 : Stp [e.2.1.l, e.2.1.c] H H1 := s1.sub (by simp)
    exact q H1 (hM.turn he s2 (by simp [VA.foot]) (hv.lined s2 hL)) (s2.sub (by simp [VA.foot]))
end
end Mx

namespace Mx
open PySem L2
set_option hygiene false in
local macro_rules | `(tactic| walk_at "rd") => `(tactic| try simp only [L2.start, List.map_cons, List.map_nil, List.length_cons, List.length_nil, Nat.reduceAdd, Nat.reduceSub, Nat.reduceLT, Nat.reduceLeDiff, List.replicate_succ, List.replicate_zero, List.append_nil, List.nil_append, List.cons_append, List.set_cons_zero, List.set_cons_succ, List.getElem?_cons_zero, List.getElem?_cons_succ,
  Option.some.injEq, List.cons.injEq, and_true, true_and, and_assoc, reduceCtorEq, L2.V.int.injEq, L2.V.ref.injEq, L2.V.bl.injEq, L2.V.str.injEq, L2.V.ty.injEq, L2.HO.ins.injEq, L2.HO.lst.injEq, L2.HO.tup.injEq, L2.HO.dK.injEq, exists_eq_left', exists_eq_left, exists_eq_right, exists_eq', exists_eq, exists_and_left, exists_and_right, reduceIte, Bool.false_eq_true, Bool.not_true, Bool.not_false,
  L2.tSeq, L2.tIfS, L2.tRet, L2.tRetN, L2.tNext, L2.tAsg, L2.gName, L2.tVar, L2.tC, L2.tCons, L2.tNil, L2.tCB, L2.tOp, L2.tUn, L2.tTup, L2.tLst, L2.tB, L2.tOr, L2.tAnd, L2.tNot, L2.tAndV, L2.tOrV, L2.tNotV, L2.tIf, L2.tTest, L2.tChain, L2.rI, L2.rI0, L2.rU, L2.tDrop, L2.tNever, L2.tCall, L2.tMeth, L2.tMake, L2.rGcd, L2.tFld, L2.sFld, L2.sFldAug, Mx.sFldA, Mx.sFldAugA, L2.rAdd, L2.rSub, L2.rEq, L2.rNe, L2.tDGet, L2.tDIn, L2.tDNotIn, L2.sDPut,
  Mx.isi_int_bool, Mx.isi_int_int, Mx.isi_int_tuple, Mx.isi_int_list, Mx.isi_int_str, Mx.scal_int, Mx.scal_str, Mx.scal_bl, Mx.ofString_inj, Mx.ofString_beq, Mx.lk_cons, Mx.pf_nil, Mx.pf_cons, Mx.sz1, Mx.sz2, List.lookup_nil, String.reduceEq, decide_true, decide_false, decide_eq_true_eq, Int.natAbs_natCast, L2.upd_same, L2.upd_upd, L2.cxOf, Mx.fsM, Mx.fsV, Mx.fsD])
set_option hygiene false in
local macro_rules | `(tactic| walk_at "rds") => `(tactic| try simp only [L2.start, List.map_cons, List.map_nil, List.length_cons, List.length_nil, Nat.reduceAdd, Nat.reduceSub, Nat.reduceLT, Nat.reduceLeDiff, List.replicate_succ, List.replicate_zero, List.append_nil, List.nil_append, List.cons_append, List.set_cons_zero, List.set_cons_succ, List.getElem?_cons_zero, List.getElem?_cons_succ,
  Option.some.injEq, List.cons.injEq, and_true, true_and, and_assoc, reduceCtorEq, L2.V.int.injEq, L2.V.ref.injEq, L2.V.bl.injEq, L2.V.str.injEq, L2.V.ty.injEq, L2.HO.ins.injEq, L2.HO.lst.injEq, L2.HO.tup.injEq, L2.HO.dK.injEq, exists_eq_left', exists_eq_left, exists_eq_right, exists_eq', exists_eq, exists_and_left, exists_and_right, reduceIte, Bool.false_eq_true, Bool.not_true, Bool.not_false,
  L2.tSeq, L2.tIfS, L2.tRet, L2.tRetN, L2.tNext, L2.tAsg, L2.gName, L2.tVar, L2.tC, L2.tCons, L2.tNil, L2.tCB, L2.tOp, L2.tUn, L2.tTup, L2.tLst, L2.tB, L2.tOr, L2.tAnd, L2.tNot, L2.tAndV, L2.tOrV, L2.tNotV, L2.tIf, L2.tTest, L2.tChain, L2.rI, L2.rI0, L2.rU, L2.tDrop, L2.tNever, L2.tCall, L2.tMeth, L2.tMake, L2.rGcd, L2.tFld, L2.sFld, L2.sFldAug, Mx.sFldA, Mx.sFldAugA, L2.rAdd, L2.rSub, L2.rEq, L2.rNe, L2.tDGet, L2.tDIn, L2.tDNotIn, L2.sDPut,
  Mx.isi_int_bool, Mx.isi_int_int, Mx.isi_int_tuple, Mx.isi_int_list, Mx.isi_int_str, Mx.scal_int, Mx.scal_str, Mx.scal_bl, Mx.ofString_inj, Mx.ofString_beq, Mx.lk_cons, Mx.pf_nil, Mx.pf_cons, Mx.sz1, Mx.sz2, List.lookup_nil, String.reduceEq, decide_true, decide_false, decide_eq_true_eq, Int.natAbs_natCast, L2.upd_same, L2.upd_upd, L2.cxOf, Mx.fsM, Mx.fsV, Mx.fsD, *])

section
variable {P : Program} {w : World} {K : PySem.W.Frag} {mg : Str → Option Value} {base : Heap} {cs : Cs} {C : Addr}
/-! what is told of the voices -/
def IsSt (K : PySem.W.Frag) (H : Hp) (v : V) (n : Int) (x : VoiceS) : Prop := ∃ a pv lv, v = .ref a ∧ H a = some (.tup [.int n, .str x.word, pv, lv]) ∧ IsQ K H pv x.part ∧ IsQ K H lv x.loud.level
theorem IsSt.st {F : List Addr} {H H' : Hp} {v : V} {n : Int} {x : VoiceS} (h : IsSt K H v n x) (s : Stp F H H') : IsSt K H' v n x := by
  obtain ⟨a, pv, lv, e, h1, h2, h3⟩ := h
  exact ⟨a, pv, lv, e, s.tup _ _ h1, h2.st s, h3.st s⟩
def sp_Mixer_state_of (K : PySem.W.Frag) (cs : Cs) : Sp := fun vs H Q _ => ∃ (m d k : Addr) (s : MixS) (e : MV), vs = [.ref m, .int e.1] ∧ MixAt K cs H m d k s ∧ e ∈ s.vs ∧ ∀ v H', Stp [] H H' → IsSt K H' v e.1 e.2.2 → Q v H'
theorem sc_Mixer_state_of : FnScope ["self", "name", "voice"] ["self", "name"] (defScope s_Mixer_state_of) := ⟨rfl, rfl, rfl, by decide +kernel, rfl, by decide +kernel, by decide +kernel⟩
theorem ok_Mixer_state_of {f : Addr} {fd : FuncData} (F : Fun K "state_of" "Mixer.state_of" s_Mixer_state_of f fd) (T : TM K cs.M) (TVV : TV K cs.V) (TDD : TD K cs.D) : FnOk P w K mg base CX0 1 f fd ["self", "name"] (sp_Mixer_state_of K cs) := by
  refine F.ok sc_Mixer_state_of (fun vs H Q E h => ?_) (fun cdv A outer s H vs Q E hr h => ?_)
  · obtain ⟨m, d, k, s, e, rfl, _⟩ := h
    rfl
  · obtain ⟨m, d, k, s, e, rfl, hM, he, q⟩ := h
    have hu := hu_of hr
    refine ⟨_, pss_cons (ps_set (i := 2) sc_Mixer_state_of.nd rfl (.inl rfl) (pe_dget hu (pe_fld (pv 0) rfl) (pv 1) (fun _ _ => rfl)))
      (pss_one (ps_ret (pe_tup (pa_cons (pv 1) (pa_cons (pe_fld (pv 2) rfl) (pa_cons (pe_fld (pv 2) rfl) (pa_cons (pe_fld (pe_fld (pv 2) rfl) rfl) pa_nil))))))), ?_⟩
    obtain ⟨cl, a1, a2, a3, a4⟩ := T
    obtain ⟨vcl, b1, b2, b3, b4, b5, b6, b7⟩ := TVV
    obtain ⟨dcl, c1, c2, c3⟩ := TDD
    obtain ⟨dx, h1⟩ := id hM.ob
    have g1 := DGet.k (k := (Sum.inl e.1 : Key)) hM.dv
    rw [vdict_get hM.nm he] at g1
    have hv := hM.vo e he
    obtain ⟨dy, pv', hv', v1, v2, v3⟩ := hv.ob
    obtain ⟨dz, lv, st, d1, d2, d3⟩ := hv.loud
    walk_at "rds"
    refine ⟨_, g1, ?_⟩
    walk_at "rds"
    refine ⟨by decide, fun p hp => ?_⟩
    have s1 := Stp.new (o := .tup [.int e.1, .str e.2.2.word, pv', lv]) hp
    exact q _ _ s1 ⟨p, pv', lv, rfl, upd_same, v2.st s1, d2.st s1⟩
def sp_Mixer_states (K : PySem.W.Frag) (cs : Cs) : Sp := fun vs H Q _ => ∃ (m d k : Addr) (s : MixS), vs = [.ref m] ∧ MixAt K cs H m d k s ∧ s.vs.length < 64 ∧
  ∀ p H' ls ys, H p = none → Stp [] H H' → ys.Perm (s.vs.map (·.1)) → ys.Pairwise (· ≤ ·) → H' p = some (.lst ls) → Paired (fun v n => ∃ e ∈ s.vs, e.1 = n ∧ IsSt K H' v n e.2.2) ls ys → Q (.ref p) H'
theorem sc_Mixer_states : FnScope ["self", "name"] ["self"] (defScope s_Mixer_states) := ⟨rfl, rfl, rfl, by decide +kernel, rfl, by decide +kernel, by decide +kernel⟩
theorem ok_Mixer_states {f : Addr} {fd : FuncData} (F : Fun K "states" "Mixer.states" s_Mixer_states f fd) (T : TM K cs.M) (B : Blt mg) (G : OwnM P w K mg base cs.M "state_of" 1 ["self", "name"] (sp_Mixer_state_of K cs)) : FnOk P w K mg base CX0 2 f fd ["self"] (sp_Mixer_states K cs) := by
  refine F.ok sc_Mixer_states (fun vs H Q E h => ?_) (fun cdv A outer s H vs Q E hr h => ?_)
  · obtain ⟨m, d, k, s, rfl, _⟩ := h
    rfl
  · obtain ⟨m, d, k, s, rfl, hM, h64, q⟩ := h
    refine ⟨_, pss_one (ps_ret (pe_lc (own := [("name", 1)]) (te := tMeth cs.M "state_of" (sp_Mixer_state_of K cs) [] E0 (tVar 0) (tCons (tVar 1) tNil)) rfl sc_Mixer_states.nd (pi_list (pe_callB (call_sortedDI rfl) (by rfl) B.sorted PyProof.Rows.boot_sorted (pa_cons (pe_fld (pv 0) rfl) pa_nil))) (blkOk_by (N := ["self", "name"]) (sc := defScope s_Mixer_states) (by decide +kernel))
      (fun _ _ _ _ _ => pg_name (i := 1) sc_Mixer_states.nd rfl (.inl rfl)) (fun _ _ _ _ _ => pts_nil) (fun _ _ _ _ _ => p_meth G hr (pv 0) (pa_cons (pv 1) pa_nil)))), ?_⟩
    obtain ⟨cl, a1, a2, a3, a4⟩ := T
    obtain ⟨dx, h1⟩ := id hM.ob
    refine ⟨_, rfl, m, cs.M, dx, _, _, rfl, h1, cl, a3, rfl, d, _, s.vs.map (·.1), rfl, .inl hM.dv, ?_, ?_, fun ys p hpm hpw hp0 => ⟨p, rfl, ⟨_, .inl (.inl upd_same)⟩, fun D hD => ?_⟩⟩
    · unfold vdict
      rw [List.map_map, List.map_map]
      rfl
    · rw [List.length_map]
      exact h64
    have s0 := Stp.new (o := .lst (ys.map V.int)) hp0
    have hyl : ys.length = s.vs.length := by rw [hpm.length_eq, List.length_map]
    refine lc_list (K := K) (a := p) (xs := ys.map V.int) (fun j H' => Stp [] H H' ∧ H' p = some (.lst (ys.map V.int)) ∧ ∃ ls, H' D = some (.lst ls) ∧ Paired (fun v n => ∃ e ∈ s.vs, e.1 = n ∧ IsSt K H' v n e.2.2) ls (ys.take j)) ⟨s0.trans (Stp.new hD), (Stp.new hD).keep _ _ upd_same (by simp), [], upd_same, by rw [List.take_zero]; exact .nil⟩ (fun j H' _ h => .inl (.inl h.2.1)) (fun j x H' hj h => ?_) (fun H' h => ?_)
    · obtain ⟨sj, hpj, ls, hl, hpr⟩ := h
      rw [List.getElem?_map] at hj
      obtain ⟨n, hn, rfl⟩ := Option.map_eq_some_iff.mp hj
      have hnm : n ∈ ys := List.mem_of_getElem? hn
      obtain ⟨e, he, rfl⟩ := List.mem_map.mp (hpm.mem_iff.mp hnm)
      have hMj := hM.st0 sj
      obtain ⟨dxj, hmj⟩ := hMj.ob
      refine ⟨wipe1, ?_⟩
      simp only [tYes, reduceIte]
      refine ⟨_, rfl, m, dxj, _, rfl, hmj, by walk_at "rd", _, rfl, m, d, k, s, e, rfl, hMj, he, fun v H2 s2 hst => ?_⟩
      have hl2 := s2.keep _ _ hl (by simp)
      have hpl : ∀ {as : List V} {bs : List Int}, Paired (fun v n => ∃ e ∈ s.vs, e.1 = n ∧ IsSt K H' v n e.2.2) as bs → as.length = bs.length := by
        intro as bs hp
        induction hp with
        | nil => rfl
        | cons _ _ ih => rw [List.length_cons, List.length_cons, ih]
      have hll := hpl hpr
      rw [List.length_take] at hll
      have hD0 : H D = none := s0.free hD (by simp)
      have sD := Stp.put (o := .lst (ls ++ [v])) hl2 (fun xs z => nomatch z)
      have sA : Stp [] H (upd H2 D (.lst (ls ++ [v]))) := ((sj.trans s2).trans sD).subN fun b hb => .inr (by
        have : b = D := by simpa using hb
        rw [this]; exact hD0)
      have hpD : p ≠ D := by
        intro z
        rw [← z, upd_same] at hD
        cases hD
      refine ⟨ls, hl2, ?_, sA, sD.keep _ _ (s2.keep _ _ hpj (by simp)) (by simpa using hpD), ls ++ [v], upd_same, ?_⟩
      · exact Nat.lt_of_le_of_lt (show _ ≤ 100000 by omega) (by decide)
      · have et : ys.take (j + 1) = ys.take j ++ [e.1] := by rw [List.take_add_one, hn]; rfl
        rw [et]
        have mono : ∀ {as : List V} {bs : List Int}, Paired (fun v n => ∃ e ∈ s.vs, e.1 = n ∧ IsSt K H' v n e.2.2) as bs → Paired (fun u n => ∃ e ∈ s.vs, e.1 = n ∧ IsSt K (upd H2 D (.lst (ls ++ [v]))) u n e.2.2) as bs := by
          intro as bs hp
          induction hp with
          | nil => exact .nil
          | cons hh _ ih =>
            obtain ⟨e', he', q1, q2⟩ := hh
            exact .cons ⟨e', he', q1, (q2.st s2).st sD⟩ ih
        exact (mono hpr).snoc ⟨e, he, rfl, hst.st sD⟩
    · obtain ⟨sj, hpj, ls, hl, hpr⟩ := h
      rw [List.length_map, List.take_length] at hpr
      have hD0 : H D = none := s0.free hD (by simp)
      exact q D H' ls ys hD0 sj hpm hpw hl hpr
def sp_Mixer_heard (K : PySem.W.Frag) (cs : Cs) (b : Bool) : Sp := fun vs H Q _ => ∃ (m d k : Addr) (s : MixS) (e : MV), vs = [.ref m, .int e.1] ∧ MixAt K cs H m d k s ∧ e ∈ s.vs ∧ 0 ≤ e.1 ∧ e.1 ≤ 5 ∧
  ∀ H', MixAt K cs H' m d k { s with vs := setV s.vs e.1 { e.2.2 with heard := b } } → Stp e.2.1.foot H H' → Q .non H'
theorem sc_Mixer_hush : FnScope ["self", "name", "voice"] ["self", "name"] (defScope s_Mixer_hush) := ⟨rfl, rfl, rfl, by decide +kernel, rfl, by decide +kernel, by decide +kernel⟩
theorem VoiceAt.own {H H' : Hp} {A : VA} {v u : VoiceS} (h : VoiceAt K cs H A v) (s : Stp [A.a] H H') (ho : VObj K cs.V H' A.a A.l A.q u) (e1 : u.line = v.line) (e2 : u.loud = v.loud) : VoiceAt K cs H' A u := by
  obtain ⟨n1, n2, n3, n4, n5, n6⟩ := nd4 h.nd
  exact ⟨ho, by rw [e1]; exact h.line.st s (by simpa using n1.symm) (by simpa using n2.symm), by rw [e2]; exact h.loud.st s (by simpa using n3.symm), h.nd⟩
theorem ok_Mixer_hush {f : Addr} {fd : FuncData} (F : Fun K "hush" "Mixer.hush" s_Mixer_hush f fd) (TVV : TV K cs.V) (G : OwnM P w K mg base cs.M "voice_of" 3 ["self", "name"] (sp_Mixer_voice_of K cs)) : FnOk P w K mg base CX0 4 f fd ["self", "name"] (sp_Mixer_heard K cs false) := by
  refine F.ok sc_Mixer_hush (fun vs H Q E h => ?_) (fun cdv A outer s H vs Q E hr h => ?_)
  · obtain ⟨m, d, k, s, e, rfl, _⟩ := h
    rfl
  · obtain ⟨m, d, k, s, e, rfl, hM, he, h0, h5, q⟩ := h
    refine ⟨_, pss_cons (ps_set (i := 2) sc_Mixer_hush.nd rfl (.inl rfl) (p_meth G hr (pv 0) (pa_cons (pv 1) pa_nil))) (pss_one (ps_fldA (pv 2) pe_bl rfl)), ?_⟩
    obtain ⟨vcl, b1, b2, b3, b4, b5, b6, b7⟩ := TVV
    obtain ⟨dx, h1⟩ := id hM.ob
    have hv := hM.vo e he
    obtain ⟨dy, pv', hv', v1, v2, v3⟩ := hv.ob
    walk_at "rds"
    refine ⟨m, d, k, s, e, rfl, hM, he, h0, h5, ?_⟩
    walk_at "rds"
    intro H1 g1 s1
    exact q H1 (hM.turn he s1 (by simp [VA.foot]) (hv.own s1 ⟨dy, _, _, g1, v2.st s1, v3.st s1⟩ rfl rfl)) (s1.sub (by simp [VA.foot]))
end
end Mx

namespace Mx
open PySem L2
set_option hygiene false in
local macro_rules | `(tactic| walk_at "rd") => `(tactic| try simp only [L2.start, List.map_cons, List.map_nil, List.length_cons, List.length_nil, Nat.reduceAdd, Nat.reduceSub, Nat.reduceLT, Nat.reduceLeDiff, List.replicate_succ, List.replicate_zero, List.append_nil, List.nil_append, List.cons_append, List.set_cons_zero, List.set_cons_succ, List.getElem?_cons_zero, List.getElem?_cons_succ,
  Option.some.injEq, List.cons.injEq, and_true, true_and, and_assoc, reduceCtorEq, L2.V.int.injEq, L2.V.ref.injEq, L2.V.bl.injEq, L2.V.str.injEq, L2.V.ty.injEq, L2.HO.ins.injEq, L2.HO.lst.injEq, L2.HO.tup.injEq, L2.HO.dK.injEq, exists_eq_left', exists_eq_left, exists_eq_right, exists_eq', exists_eq, exists_and_left, exists_and_right, reduceIte, Bool.false_eq_true, Bool.not_true, Bool.not_false,
  L2.tSeq, L2.tIfS, L2.tRet, L2.tRetN, L2.tNext, L2.tAsg, L2.gName, L2.tVar, L2.tC, L2.tCons, L2.tNil, L2.tCB, L2.tOp, L2.tUn, L2.tTup, L2.tLst, L2.tB, L2.tOr, L2.tAnd, L2.tNot, L2.tAndV, L2.tOrV, L2.tNotV, L2.tIf, L2.tTest, L2.tChain, L2.rI, L2.rI0, L2.rU, L2.tDrop, L2.tNever, L2.tCall, L2.tMeth, L2.tMake, L2.rGcd, L2.tFld, L2.sFld, L2.sFldAug, Mx.sFldA, Mx.sFldAugA, L2.rAdd, L2.rSub, L2.rEq, L2.rNe, L2.tDGet, L2.tDIn, L2.tDNotIn, L2.sDPut,
  Mx.isi_int_bool, Mx.isi_int_int, Mx.isi_int_tuple, Mx.isi_int_list, Mx.isi_int_str, Mx.scal_int, Mx.scal_str, Mx.scal_bl, Mx.ofString_inj, Mx.ofString_beq, Mx.lk_cons, Mx.pf_nil, Mx.pf_cons, Mx.sz1, Mx.sz2, List.lookup_nil, String.reduceEq, decide_true, decide_false, decide_eq_true_eq, Int.natAbs_natCast, L2.upd_same, L2.upd_upd, L2.cxOf, Mx.fsD, Mx.fsM, Mx.fsV])
set_option hygiene false in
local macro_rules | `(tactic| walk_at "rds") => `(tactic| try simp only [L2.start, List.map_cons, List.map_nil, List.length_cons, List.length_nil, Nat.reduceAdd, Nat.reduceSub, Nat.reduceLT, Nat.reduceLeDiff, List.replicate_succ, List.replicate_zero, List.append_nil, List.nil_append, List.cons_append, List.set_cons_zero, List.set_cons_succ, List.getElem?_cons_zero, List.getElem?_cons_succ,
  Option.some.injEq, List.cons.injEq, and_true, true_and, and_assoc, reduceCtorEq, L2.V.int.injEq, L2.V.ref.injEq, L2.V.bl.injEq, L2.V.str.injEq, L2.V.ty.injEq, L2.HO.ins.injEq, L2.HO.lst.injEq, L2.HO.tup.injEq, L2.HO.dK.injEq, exists_eq_left', exists_eq_left, exists_eq_right, exists_eq', exists_eq, exists_and_left, exists_and_right, reduceIte, Bool.false_eq_true, Bool.not_true, Bool.not_false,
  L2.tSeq, L2.tIfS, L2.tRet, L2.tRetN, L2.tNext, L2.tAsg, L2.gName, L2.tVar, L2.tC, L2.tCons, L2.tNil, L2.tCB, L2.tOp, L2.tUn, L2.tTup, L2.tLst, L2.tB, L2.tOr, L2.tAnd, L2.tNot, L2.tAndV, L2.tOrV, L2.tNotV, L2.tIf, L2.tTest, L2.tChain, L2.rI, L2.rI0, L2.rU, L2.tDrop, L2.tNever, L2.tCall, L2.tMeth, L2.tMake, L2.rGcd, L2.tFld, L2.sFld, L2.sFldAug, Mx.sFldA, Mx.sFldAugA, L2.rAdd, L2.rSub, L2.rEq, L2.rNe, L2.tDGet, L2.tDIn, L2.tDNotIn, L2.sDPut,
  Mx.isi_int_bool, Mx.isi_int_int, Mx.isi_int_tuple, Mx.isi_int_list, Mx.isi_int_str, Mx.scal_int, Mx.scal_str, Mx.scal_bl, Mx.ofString_inj, Mx.ofString_beq, Mx.lk_cons, Mx.pf_nil, Mx.pf_cons, Mx.sz1, Mx.sz2, List.lookup_nil, String.reduceEq, decide_true, decide_false, decide_eq_true_eq, Int.natAbs_natCast, L2.upd_same, L2.upd_upd, L2.cxOf, Mx.fsD, Mx.fsM, Mx.fsV, *])

theorem frac_one {b : Int} (h : 1 ≤ b) : frac (mkRat 1 b.toNat) = [.int 1, .int b] := by
  have hb : 0 < b.toNat := by omega
  unfold frac
  rw [mk_num 1 b.toNat hb, mk_den 1 b.toNat hb]
  have : Nat.gcd (1 : Int).natAbs b.toNat = 1 := Nat.gcd_one_left _
  rw [this]
  have e : ((b.toNat : Nat) : Int) = b := by omega
  simp [e]
theorem Rb.subq {n m : Nat} {q r : Rat} (h : Rb n q) (k : Rb m r) : Rb (n + m + 1) (q - r) := by
  have e : 2 ^ n * 2 ^ m = 2 ^ (n + m) := (Nat.pow_add 2 n m).symm
  have e2 : 2 ^ (n + m + 1) = 2 ^ (n + m) + 2 ^ (n + m) := by rw [Nat.pow_succ]; omega
  rw [← sub_mk]
  have p1 : q.den * r.den < 2 ^ (n + m) := by rw [← e]; exact Nat.mul_lt_mul'' h.den k.den
  have p2 : (q.num * r.den).natAbs < 2 ^ (n + m) := by rw [← e, Int.natAbs_mul, Int.natAbs_natCast]; exact Nat.mul_lt_mul'' h.num k.den
  have p3 : (r.num * q.den).natAbs < 2 ^ (n + m) := by rw [← e, Int.natAbs_mul, Int.natAbs_natCast, Nat.mul_comm]; exact Nat.mul_lt_mul'' h.den k.num
  refine Rb.of (Nat.mul_pos q.den_pos r.den_pos) ?_ (by omega)
  omega
/-- how loudness stands when it is led anew -/
theorem LoudIs.to {D : Nat} {a b : Int} {s : LoudS} (h : LoudIs D a b s) {l n : Int} (l0 : 0 ≤ l) (l1 : l ≤ 64) (n0 : 1 ≤ n) : LoudIs (D * n.toNat) (a * n) (l * D - a) (s.to l n) := by
  obtain ⟨d0, lv, st, a0, a1, b0, b1, e9, e0, e1⟩ := h
  obtain ⟨m, rfl⟩ : ∃ m : Nat, n = m := ⟨n.toNat, by omega⟩
  have hm : 0 < m := by omega
  rw [Int.toNat_natCast]
  have hD : ((D * m : Nat) : Int) = (D : Int) * m := Int.natCast_mul D m
  have hDm : 0 ≤ (D : Int) * m := Int.mul_nonneg (by omega) (by omega)
  have hDm2 : (D : Int) ≤ (D : Int) * m := by
    have := Int.mul_le_mul_of_nonneg_left (show (1 : Int) ≤ m by omega) (show (0 : Int) ≤ D by omega)
    omega
  have lD : l * D ≤ 64 * D := Int.mul_le_mul_of_nonneg_right l1 (by omega)
  have lD0 : 0 ≤ l * D := Int.mul_nonneg l0 (by omega)
  have am : 0 ≤ a * m := Int.mul_nonneg a0 (by omega)
  have am1 : a * m ≤ 64 * D * m := Int.mul_le_mul_of_nonneg_right a1 (by omega)
  have am2 : 64 * (D : Int) * m = 64 * ((D : Int) * m) := Int.mul_assoc _ _ _
  have eE : a * m + (l * D - a) * m = l * ((D : Int) * m) := by rw [Int.sub_mul, Int.mul_assoc]; omega
  refine ⟨Nat.mul_pos d0 hm, ?_, ?_, am, by rw [hD]; omega, by rw [hD]; omega, by rw [hD]; omega, by show (0 : Int) ≤ (m : Int); omega, ?_, ?_⟩
  · show s.level = _
    rw [lv, ← Nat.mul_assoc]
    exact (Rat.mkRat_mul_right (n := a) (d := 64 * D) (a := m) (by omega)).symm
  · show (mkRat l 64 - s.level) * mkRat 1 (m : Int).toNat = _
    rw [lv, Int.toNat_natCast]
    have e : mkRat l 64 - mkRat a (64 * D) = mkRat (l * D - a) (64 * D) := by
      have e1 : mkRat l 64 = mkRat (l * D) (64 * D) := (Rat.mkRat_mul_right (n := l) (d := 64) (a := D) (by omega)).symm
      rw [e1, Rat.sub_eq_add_neg, Rat.neg_mkRat, mk_add _ _ (by omega), Int.sub_eq_add_neg]
    rw [e, Rat.mkRat_mul_mkRat, Int.mul_one, Nat.mul_assoc]
  · show 0 ≤ a * m + (l * D - a) * m
    rw [eE]
    exact Int.mul_nonneg l0 hDm
  · show a * m + (l * D - a) * m ≤ _
    rw [eE, hD]
    exact Int.mul_le_mul_of_nonneg_right l1 hDm
theorem LoudOk.to {d : Nat} {s : LoudS} (h : LoudOk d s) {l n : Int} (l0 : 0 ≤ l) (l1 : l ≤ 64) (n0 : 1 ≤ n) (n1 : n ≤ 64) : LoudOk (d + 6) (s.to l n) := by
  obtain ⟨D, a, b, h, hd⟩ := h
  refine ⟨D * n.toNat, _, _, h.to l0 l1 n0, ?_⟩
  have h1 : 64 * (D * n.toNat) ≤ 64 * D * 64 := by
    rw [← Nat.mul_assoc]
    exact Nat.mul_le_mul_left _ (by omega)
  have h2 : 2 ^ (d + 6) = 2 ^ d * 64 := by rw [Nat.pow_add]
  omega
section
variable {P : Program} {w : World} {K : PySem.W.Frag} {mg : Str → Option Value} {base : Heap} {cs : Cs} {C : Addr}
theorem sc_minus : FnScope ["one", "other"] ["one", "other"] (defScope s_minus) := ⟨rfl, rfl, rfl, by decide +kernel, rfl, by decide +kernel, by decide +kernel⟩
theorem ok_minus {f : Addr} {fd : FuncData} (F : Fun K "minus" "minus" s_minus f fd) (G : OwnF P w K mg base "ratio" 1 ["top", "bottom"] sp_ratio) : FnOk P w K mg base CX0 2 f fd ["one", "other"] (sp_two (· - ·) K) := by
  refine F.ok sc_minus (fun vs H Q E h => ?_) (fun cdv A outer s H vs Q E hr h => ?_)
  · obtain ⟨a, b, q, r, n, m, rfl, _⟩ := h
    rfl
  · obtain ⟨a, b, q, r, n, m, rfl, ha, hb, hn, hm, hl, hn0, hm0, k⟩ := h
    refine ⟨_, pss_one (ps_ret (p_call G hr (pa_cons (pe_op op_sub (pe_op op_mulW (pe_ix ix_tup (pv 0) pe_int (fun _ _ => rfl)) (pe_ix ix_tup (pv 1) pe_int (fun _ _ => rfl))) (pe_op op_mulW (pe_ix ix_tup (pv 1) pe_int (fun _ _ => rfl)) (pe_ix ix_tup (pv 0) pe_int (fun _ _ => rfl))))
      (pa_cons (pe_op op_mulW (pe_ix ix_tup (pv 0) pe_int (fun _ _ => rfl)) (pe_ix ix_tup (pv 1) pe_int (fun _ _ => rfl))) pa_nil)))), ?_⟩
    walk_at "rd"
    have e1 : 2 ^ n * 2 ^ m = 2 ^ (n + m) := (Nat.pow_add 2 n m).symm
    refine ixT_0 ha (ixT_1 hb ⟨_, rfl, _, rfl, wide_mul hn.num (by simpa using hm.den) hn0 hm0 (by omega), ixT_0 hb (ixT_1 ha ⟨_, rfl, _, rfl, wide_mul hm.num (by simpa using hn.den) hm0 hn0 (by omega), ixT_1 ha (ixT_1 hb ⟨_, rfl, _, rfl, wide_mul (by simpa using hn.den) (by simpa using hm.den) hn0 hm0 (by omega), ?_⟩)⟩)⟩)
    have hd : (q.den : Int) * (r.den : Int) = ((q.den * r.den : Nat) : Int) := by simp
    refine ⟨_, _, rfl, ?_, ?_, fun p H' hp hs hl' => k p H' hp hs ?_⟩
    · rw [hd]
      have := Nat.mul_pos q.den_pos r.den_pos
      omega
    · rw [hd, Int.natAbs_natCast]
      exact Nat.lt_of_lt_of_le (Nat.mul_lt_mul'' hn.den hm.den) (by rw [e1]; exact Nat.pow_le_pow_right (by decide) (by omega))
    · rw [hd, Int.toNat_natCast, sub_mk] at hl'
      exact hl'
def sp_Loudness_lead_to (K : PySem.W.Frag) (C : Addr) : Sp := fun vs H Q _ => ∃ (q : Addr) (s : LoudS) (d : Nat) (l b : Int), vs = [.ref q, .int l, .int b] ∧ LoudAt K C H q s ∧ Rb d s.level ∧ 0 < d ∧ d + 20 < 9000 ∧ 0 ≤ l ∧ l ≤ 64 ∧ 1 ≤ b ∧ b ≤ 64 ∧ ∀ H', LoudAt K C H' q (s.to l b) → Stp [q] H H' → Q .non H'
theorem sc_Loudness_lead_to : FnScope ["self", "loudness", "beats", "gap"] ["self", "loudness", "beats"] (defScope s_Loudness_lead_to) := ⟨rfl, rfl, rfl, by decide +kernel, rfl, by decide +kernel, by decide +kernel⟩
theorem ok_Loudness_lead_to {f : Addr} {fd : FuncData} (F : Fun K "lead_to" "Loudness.lead_to" s_Loudness_lead_to f fd) (T : TD K C) (TT : TC K mg) (GR : OwnF P w K mg base "ratio" 1 ["top", "bottom"] sp_ratio) (GM : OwnF P w K mg base "minus" 2 ["one", "other"] (sp_two (· - ·) K)) (GT : OwnF P w K mg base "times" 2 ["one", "other"] (sp_two (· * ·) K)) :
    FnOk P w K mg base CX0 3 f fd ["self", "loudness", "beats"] (sp_Loudness_lead_to K C) := by
  refine F.ok sc_Loudness_lead_to (fun vs H Q E h => ?_) (fun cdv A outer s H vs Q E hr h => ?_)
  · obtain ⟨q, s, d, l, b, rfl, _⟩ := h
    rfl
  · obtain ⟨q, s, d, l, b, rfl, hq, hd, hd0, hd1, l0, l1, b0, b1, k⟩ := h
    obtain ⟨cl, a1, a2, a3⟩ := T
    obtain ⟨tF, hF⟩ := TT.full
    obtain ⟨dx, lv, st, h1, h2, h3⟩ := id hq
    have nd := sc_Loudness_lead_to.nd
    refine ⟨_, pss_cons (ps_set (i := 3) nd rfl (.inl rfl) (p_call GM hr (pa_cons (p_call GR (hr.mono (by decide)) (pa_cons (pv 1) (pa_cons (pe_glob (v := .int 64) (by rfl) hF ⟨_, rfl⟩) pa_nil))) (pa_cons (pe_fld (pv 0) rfl) pa_nil))))
      (pss_cons (ps_fldA (pv 0) (p_call GT hr (pa_cons (pv 3) (pa_cons (pe_tup (pa_cons pe_int (pa_cons (pv 2) pa_nil))) pa_nil))) rfl) (pss_one (ps_fldA (pv 0) (pv 2) rfl))), ?_⟩
    obtain ⟨a, rfl, h2'⟩ := h2
    walk_at "rds"
    refine ⟨l, 64, rfl, by decide, Nat.pow_lt_pow_right (by decide) (show 7 < 9000 by decide) |> Nat.lt_trans (by decide), fun p H1 hp s1 l1' => ?_⟩
    have g1 := s1.keep _ _ h1 (by simp)
    have rl : Rb 7 (mkRat l 64) := Rb.of (by decide) (by omega) (by decide)
    walk_at "rds"
    refine ⟨p, a, mkRat l 64, s.level, 7, d, rfl, .inl l1', h2'.st s1, rl, hd, by omega, by decide, hd0, fun p2 H2 hp2 s2 l2 => ?_⟩
    walk_at "rds"
    intro p3 hp3
    have s3 := Stp.new (o := .tup [.int 1, .int b]) hp3
    have l3 : TupAt K (upd H2 p3 (.tup [.int 1, .int b])) p3 (frac (mkRat 1 b.toNat)) := by
      rw [frac_one b0]
      exact .inl upd_same
    have l2' := s3.tup _ _ l2
    have g3 := s3.keep _ _ (s2.keep _ _ g1 (by simp)) (by simp)
    generalize upd H2 p3 (.tup [.int 1, .int b]) = H3 at *
    have rb : Rb 7 (mkRat 1 b.toNat) := Rb.of (by omega) (by decide) (by omega)
    refine ⟨p2, p3, mkRat l 64 - s.level, mkRat 1 b.toNat, 7 + d + 1, 7, rfl, .inl l2', l3, rl.subq hd, rb, by omega, by omega, by decide, fun p4 H4 hp4 s4 l4 => ?_⟩
    have g4 := s4.keep _ _ g3 (by simp)
    walk_at "rds"
    intro H5 g5 s5
    walk_at "rds"
    intro H6 g6 s6
    have s14 := s1.trans (s2.trans (s3.trans s4))
    have s56 := s5.trans s6
    exact k _ ⟨dx, _, _, g6, ⟨a, rfl, (h2'.st s14).st s56⟩, (isQ_of l4).st s56⟩ ((s14.trans s56).sub (by simp))
def sp_check_lead : Sp := fun vs H Q _ => ∃ l b : Int, vs = [.int l, .int b] ∧ 0 ≤ l ∧ l ≤ 64 ∧ 1 ≤ b ∧ b ≤ 64 ∧ Q .non H
theorem sc_check_lead : FnScope ["loudness", "beats"] ["loudness", "beats"] (defScope s_check_lead) := ⟨rfl, rfl, rfl, by decide +kernel, rfl, by decide +kernel, by decide +kernel⟩
theorem ok_check_lead {f : Addr} {fd : FuncData} (F : Fun K "check_lead" "check_lead" s_check_lead f fd) (GL : OwnF P w K mg base "check_loudness" 2 ["loudness"] (sp_in 0 64)) (G : OwnF P w K mg base "is_whole" 1 ["number", "low", "high"] sp_is_whole) : FnOk P w K mg base CX0 3 f fd ["loudness", "beats"] sp_check_lead := by
  refine F.ok sc_check_lead (fun vs H Q E h => ?_) (fun cdv A outer s H vs Q E hr h => ?_)
  · obtain ⟨l, b, rfl, _⟩ := h
    rfl
  · obtain ⟨l, b, rfl, l0, l1, b0, b1, k⟩ := h
    refine ⟨_, pss_cons (ps_expr (p_call GL hr (pa_cons (pv 0) pa_nil))) (pss_one (ps_if (pt_not (pt_val (p_call G (hr.mono (by decide)) (pa_cons (pv 1) (pa_cons pe_int (pa_cons pe_int pa_nil)))))) (pss_one ps_never) pss_nil)), ?_⟩
    refine ⟨_, rfl, l, rfl, l0, l1, ?_⟩
    refine ⟨_, rfl, b, 1, 64, rfl, _, rfl, ?_⟩
    rw [decide_eq_true (show 1 ≤ b ∧ b ≤ 64 from ⟨b0, b1⟩)]
    exact iteF k
def sp_Mixer_lead (K : PySem.W.Frag) (cs : Cs) : Sp := fun vs H Q _ => ∃ (m d k : Addr) (s : MixS) (e : MV) (l b : Int) (n : Nat), vs = [.ref m, .int e.1, .int l, .int b] ∧ MixAt K cs H m d k s ∧ e ∈ s.vs ∧ 0 ≤ e.1 ∧ e.1 ≤ 5 ∧ 0 ≤ l ∧ l ≤ 64 ∧ 1 ≤ b ∧ b ≤ 64 ∧ Rb n e.2.2.loud.level ∧ 0 < n ∧ n + 20 < 9000 ∧
  ∀ H', MixAt K cs H' m d k { s with vs := setV s.vs e.1 { e.2.2 with loud := e.2.2.loud.to l b } } → Stp e.2.1.foot H H' → Q .non H'
theorem sc_Mixer_lead : FnScope ["self", "name", "loudness", "beats", "voice"] ["self", "name", "loudness", "beats"] (defScope s_Mixer_lead) := ⟨rfl, rfl, rfl, by decide +kernel, rfl, by decide +kernel, by decide +kernel⟩
theorem ok_Mixer_lead {f : Addr} {fd : FuncData} (F : Fun K "lead" "Mixer.lead" s_Mixer_lead f fd) (TVV : TV K cs.V) (G : OwnM P w K mg base cs.M "voice_of" 3 ["self", "name"] (sp_Mixer_voice_of K cs)) (GC : OwnF P w K mg base "check_lead" 3 ["loudness", "beats"] sp_check_lead) (GT : OwnM P w K mg base cs.D "lead_to" 3 ["self", "loudness", "beats"] (sp_Loudness_lead_to K cs.D)) :
    FnOk P w K mg base CX0 4 f fd ["self", "name", "loudness", "beats"] (sp_Mixer_lead K cs) := by
  refine F.ok sc_Mixer_lead (fun vs H Q E h => ?_) (fun cdv A outer s H vs Q E hr h => ?_)
  · obtain ⟨m, d, k, s, e, l, b, n, rfl, _⟩ := h
    rfl
  · obtain ⟨m, d, k, s, e, l, b, n, rfl, hM, he, h0, h5, l0, l1, b0, b1, hn, hn0, hn1, q⟩ := h
    refine ⟨_, pss_cons (ps_set (i := 4) sc_Mixer_lead.nd rfl (.inl rfl) (p_meth G hr (pv 0) (pa_cons (pv 1) pa_nil)))
      (pss_cons (ps_expr (p_call GC hr (pa_cons (pv 2) (pa_cons (pv 3) pa_nil))))
      (pss_one (ps_expr (p_meth GT hr (pe_fld (pv 4) rfl) (pa_cons (pv 2) (pa_cons (pv 3) pa_nil)))))), ?_⟩
    obtain ⟨vcl, b1', b2, b3, b4, b5, b6, b7⟩ := TVV
    obtain ⟨dx, h1⟩ := id hM.ob
    have hv := hM.vo e he
    obtain ⟨dy, pv', hv', v1, v2, v3⟩ := hv.ob
    obtain ⟨dz, lv, st, g1, g2, g3⟩ := id hv.loud
    walk_at "rds"
    refine ⟨m, d, k, s, e, rfl, hM, he, h0, h5, ?_⟩
    walk_at "rds"
    refine ⟨l, b, rfl, l0, l1, b0, b1, ?_⟩
    walk_at "rds"
    refine ⟨e.2.1.q, e.2.2.loud, n, l, b, rfl, hv.loud, hn, hn0, hn1, l0, l1, b0, b1, fun H1 hl s1 => ?_⟩
    obtain ⟨n1, n2, n3, n4, n5, n6⟩ := nd4 hv.nd
    have hv1 : VoiceAt K cs H1 e.2.1 { e.2.2 with loud := e.2.2.loud.to l b } := ⟨hv.ob.st s1 (by simpa using n3), hv.line.st s1 (by simpa using n5) (by simpa using n6), hl, hv.nd⟩
    exact q H1 (hM.turn he s1 (by simp [VA.foot]) hv1) (s1.sub (by simp [VA.foot]))
def sp_Mixer_now (K : PySem.W.Frag) (cs : Cs) : Sp := fun vs H Q _ => ∃ (m d k : Addr) (s : MixS), vs = [.ref m] ∧ MixAt K cs H m d k s ∧ Q (.int s.coming) H
theorem sc_Mixer_now : FnScope ["self"] ["self"] (defScope s_Mixer_now) := ⟨rfl, rfl, rfl, by decide +kernel, rfl, by decide +kernel, by decide +kernel⟩
theorem ok_Mixer_now {f : Addr} {fd : FuncData} (F : Fun K "now" "Mixer.now" s_Mixer_now f fd) (T : TM K cs.M) : FnOk P w K mg base CX0 1 f fd ["self"] (sp_Mixer_now K cs) := by
  refine F.ok sc_Mixer_now (fun vs H Q E h => ?_) (fun cdv A outer s H vs Q E hr h => ?_)
  · obtain ⟨m, d, k, s, rfl, _⟩ := h
    rfl
  · obtain ⟨m, d, k, s, rfl, hM, q⟩ := h
    obtain ⟨cl, a1, a2, a3, a4⟩ := T
    obtain ⟨dx, h1⟩ := id hM.ob
    refine ⟨_, pss_one (ps_ret (pe_fld (pv 0) rfl)), ?_⟩
    walk_at "rds"
end
end Mx

namespace Mx
open PySem L2
/-! ### a beat of all voices -/
def MixS.step (s : MixS) (e : MV) : MV := (e.1, e.2.1, e.2.2.give s.coming s.soft)
def lackN (vs : List MV) (t : Int) (n : Int) : Bool := vs.any fun e => decide (e.1 = n) && e.2.2.line.lacks t
/-- behind the voices of these names -/
def MixS.some' (s : MixS) (ys : List Int) : MixS := { s with vs := s.vs.map fun e => if e.1 ∈ ys then s.step e else e, lacked := s.lacked ++ (ys.filter (lackN s.vs s.coming)).map fun n => (n, s.coming) }
def MixS.beat (s : MixS) (ys : List Int) : MixS := { s with coming := s.coming + 1, vs := s.vs.map s.step, lacked := s.lacked ++ (ys.filter (lackN s.vs s.coming)).map fun n => (n, s.coming) }
def partOf (s : MixS) (n : Int) : Rat := match s.vs.find? fun e => decide (e.1 = n) with
  | none => 0
  | some e => (e.2.2.give s.coming s.soft).part
def sumOf (s : MixS) : List Int → Rat
  | [] => 0
  | n :: r => partOf s n + sumOf s r
theorem sumOf_snoc (s : MixS) : ∀ (ys : List Int) (n : Int), sumOf s (ys ++ [n]) = sumOf s ys + partOf s n
  | [], n => by
    show partOf s n + 0 = 0 + partOf s n
    grind
  | m :: r, n => by
    show partOf s m + sumOf s (r ++ [n]) = partOf s m + sumOf s r + partOf s n
    rw [sumOf_snoc s r n]
    grind
theorem partOf_mem {s : MixS} (h : (s.vs.map (·.1)).Nodup) {e : MV} (he : e ∈ s.vs) : partOf s e.1 = (e.2.2.give s.coming s.soft).part := by
  unfold partOf
  have : (s.vs.find? fun f => decide (f.1 = e.1)) = some e := by
    cases q : s.vs.find? fun f => decide (f.1 = e.1) with
    | none =>
      have := List.find?_eq_none.mp q e he
      simp at this
    | some f =>
      have h1 := List.find?_some q
      have h2 := List.mem_of_find?_eq_some q
      rw [nodup_inj h h2 he (of_decide_eq_true h1)]
  rw [this]
theorem lackN_mem {vs : List MV} (h : (vs.map (·.1)).Nodup) {e : MV} (he : e ∈ vs) (t : Int) : lackN vs t e.1 = e.2.2.line.lacks t := by
  unfold lackN
  cases q : e.2.2.line.lacks t with
  | true => exact List.any_eq_true.mpr ⟨e, he, by simp [q]⟩
  | false =>
    rw [List.any_eq_false]
    intro f hf z
    simp only [Bool.and_eq_true, decide_eq_true_eq] at z
    rw [nodup_inj h hf he z.1, q] at z
    exact absurd z.2 (by decide)
theorem Rb.add {n m : Nat} {q r : Rat} (h : Rb n q) (k : Rb m r) : Rb (n + m + 1) (q + r) := by
  rw [← add_mk]
  have e : 2 ^ n * 2 ^ m = 2 ^ (n + m) := (Nat.pow_add 2 n m).symm
  have e2 : 2 ^ (n + m + 1) = 2 ^ (n + m) + 2 ^ (n + m) := by rw [Nat.pow_succ]; omega
  have p1 : q.den * r.den < 2 ^ (n + m) := by rw [← e]; exact Nat.mul_lt_mul'' h.den k.den
  have p2 : (q.num * r.den).natAbs < 2 ^ (n + m) := by rw [← e, Int.natAbs_mul, Int.natAbs_natCast]; exact Nat.mul_lt_mul'' h.num k.den
  have p3 : (r.num * q.den).natAbs < 2 ^ (n + m) := by rw [← e, Int.natAbs_mul, Int.natAbs_natCast, Nat.mul_comm]; exact Nat.mul_lt_mul'' h.den k.num
  refine Rb.of (Nat.mul_pos q.den_pos r.den_pos) ?_ (by omega)
  omega
theorem MixAt.lack {K : PySem.W.Frag} {cs : Cs} {H : Hp} {m d k : Addr} {s : MixS} (h : MixAt K cs H m d k s) {ls : List V} (hl : H k = Option.some (.lst ls)) {T : Addr} {n b : Int} (hT : H T = Option.some (.tup [.int n, .int b])) :
    MixAt K cs (upd H k (.lst (ls ++ [.ref T]))) m d k { s with lacked := s.lacked ++ [(n, b)] } := by
  have hne := h.ne
  obtain ⟨⟨dx, h1⟩, h2, ⟨ls', h3, h4⟩, h5, h6, h7, h8⟩ := h
  rw [hl] at h3
  cases h3
  have g := Stp.put (o := .lst (ls ++ [.ref T])) hl (fun xs z => nomatch z)
  refine ⟨⟨dx, g.keep _ _ h1 (by simpa using hne.2.1)⟩, g.keep _ _ h2 (by simpa using hne.2.2), ⟨_, upd_same, (pairs_st g h4).snoc ⟨T, rfl, g.tup _ _ hT⟩⟩, fun e he => (h5 e he).st g fun x hx z => ?_, h6, h7, h8⟩
  exact (h6 e he).2.2 (List.mem_singleton.mp z ▸ hx)
theorem MixAt.low {K : PySem.W.Frag} {cs : Cs} {H : Hp} {m d k : Addr} {s : MixS} (h : MixAt K cs H m d k s) {ls : List V} (hl : H k = Option.some (.lst ls)) : ls.length = s.lacked.length := by
  obtain ⟨ls', h3, h4⟩ := h.lk
  rw [hl] at h3
  cases h3
  have : ∀ {as : List V} {bs : List (Int × Int)}, Paired (IsPair H) as bs → as.length = bs.length := by
    intro as bs hp
    induction hp with
    | nil => rfl
    | cons _ _ ih => rw [List.length_cons, List.length_cons, ih]
  exact this h4
theorem some_nil (s : MixS) : s.some' [] = s := by
  unfold MixS.some'
  have : (s.vs.map fun e => if e.1 ∈ ([] : List Int) then s.step e else e) = s.vs := by
    rw [List.map_congr_left (g := id) fun e _ => by simp, List.map_id]
  rw [this]
  simp
theorem some_step {s : MixS} (h : (s.vs.map (·.1)).Nodup) {e : MV} (he : e ∈ s.vs) {zs ys : List Int} (hni : e.1 ∉ zs) (ht : ys = zs ++ [e.1]) {more : List (Int × Int)} (hl : e.2.2.line.lacks s.coming = true ∧ more = [(e.1, s.coming)] ∨ e.2.2.line.lacks s.coming = false ∧ more = []) :
    { s.some' zs with lacked := (s.some' zs).lacked ++ more, vs := setV (s.some' zs).vs e.1 (e.2.2.give s.coming s.soft) } = s.some' ys := by
  subst ht
  unfold MixS.some'
  have hv : setV (s.vs.map fun f => if f.1 ∈ zs then s.step f else f) e.1 (e.2.2.give s.coming s.soft) = s.vs.map fun f => if f.1 ∈ zs ++ [e.1] then s.step f else f := by
    unfold setV
    rw [List.map_map]
    refine List.map_congr_left fun f hf => ?_
    show (if (if f.1 ∈ zs then s.step f else f).1 = e.1 then ((if f.1 ∈ zs then s.step f else f).1, (if f.1 ∈ zs then s.step f else f).2.1, e.2.2.give s.coming s.soft) else (if f.1 ∈ zs then s.step f else f)) = _
    by_cases q : f.1 = e.1
    · have := nodup_inj h hf he q
      subst this
      rw [if_neg hni, if_pos rfl, if_pos (by simp)]
      rfl
    · by_cases z : f.1 ∈ zs
      · rw [if_pos z, if_neg (show ¬ (s.step f).1 = e.1 from q), if_pos (by simp [z])]
      · rw [if_neg z, if_neg q, if_neg (by simp [z, q])]
  have hl2 : (s.lacked ++ (zs.filter (lackN s.vs s.coming)).map fun n => (n, s.coming)) ++ more = s.lacked ++ ((zs ++ [e.1]).filter (lackN s.vs s.coming)).map fun n => (n, s.coming) := by
    rw [List.filter_append, List.map_append, List.append_assoc]
    congr 2
    rw [List.filter_cons, lackN_mem h he]
    rcases hl with ⟨a, b⟩ | ⟨a, b⟩
    · rw [a, b]
      rfl
    · rw [a, b]
      rfl
  rw [hl2]
  dsimp only
  rw [hv]
structure MixOk (d : Nat) (s : MixS) : Prop where
  s1 : 1 ≤ s.soft
  s2 : s.soft ≤ 16
  d0 : 0 < d
  vo : ∀ e ∈ s.vs, VoiceOk d s.soft e.2.2
  nm : ∀ e ∈ s.vs, 0 ≤ e.1 ∧ e.1 ≤ 5
  six : s.vs.length ≤ 6
  bits : (s.vs.length + 1) * (d + 25) < 4400
  lk : s.lacked.length + s.vs.length ≤ 100000
theorem sum_rb {b : Nat} {s : MixS} (hO : MixOk b s) (hn : (s.vs.map (·.1)).Nodup) : ∀ (zs : List Int), (∀ n ∈ zs, ∃ e ∈ s.vs, e.1 = n) → Rb (1 + zs.length * (b + 25)) (sumOf s zs)
  | [], _ => ⟨by show (0 : Int).natAbs < _; exact Nat.two_pow_pos _, by show 1 < _; exact Nat.one_lt_two_pow (by omega)⟩
  | n :: r, h => by
    obtain ⟨e, he, rfl⟩ := h n List.mem_cons_self
    have h1 := sum_rb hO hn r fun m hm => h m (List.mem_cons_of_mem _ hm)
    have h2 := ((hO.vo e he).give hO.s1 hO.s2 s.coming).part
    have h3 := h2.add h1
    show Rb _ (partOf s e.1 + sumOf s r)
    rw [partOf_mem hn he]
    refine h3.mono ?_
    rw [List.length_cons, Nat.add_mul, Nat.one_mul]
    omega
set_option hygiene false in
local macro_rules | `(tactic| walk_at "rd") => `(tactic| try simp only [L2.start, List.map_cons, List.map_nil, List.length_cons, List.length_nil, Nat.reduceAdd, Nat.reduceSub, Nat.reduceLT, Nat.reduceLeDiff, List.replicate_succ, List.replicate_zero, List.append_nil, List.nil_append, List.cons_append, List.set_cons_zero, List.set_cons_succ, List.getElem?_cons_zero, List.getElem?_cons_succ,
  Option.some.injEq, List.cons.injEq, and_true, true_and, and_assoc, reduceCtorEq, L2.V.int.injEq, L2.V.ref.injEq, L2.V.bl.injEq, L2.V.str.injEq, L2.V.ty.injEq, L2.HO.ins.injEq, L2.HO.lst.injEq, L2.HO.tup.injEq, L2.HO.dK.injEq, exists_eq_left', exists_eq_left, exists_eq_right, exists_eq', exists_eq, exists_and_left, exists_and_right, reduceIte, Bool.false_eq_true, Bool.not_true, Bool.not_false,
  L2.tSeq, L2.tIfS, L2.tRet, L2.tRetN, L2.tNext, L2.tAsg, L2.gName, L2.tVar, L2.tC, L2.tCons, L2.tNil, L2.tCB, L2.tOp, L2.tUn, L2.tTup, L2.tLst, L2.tB, L2.tOr, L2.tAnd, L2.tNot, L2.tAndV, L2.tOrV, L2.tNotV, L2.tIf, L2.tTest, L2.tChain, L2.rI, L2.rI0, L2.rU, L2.tDrop, L2.tNever, L2.tCall, L2.tMeth, L2.tMake, L2.rGcd, L2.tFld, L2.sFld, L2.sFldAug, Mx.sFldA, Mx.sFldAugA, L2.rAdd, L2.rSub, L2.rEq, L2.rNe, L2.tDGet, L2.tDIn, L2.tDNotIn, L2.sDPut,
  Mx.isi_int_bool, Mx.isi_int_int, Mx.isi_int_tuple, Mx.isi_int_list, Mx.isi_int_str, Mx.scal_int, Mx.scal_str, Mx.scal_bl, Mx.ofString_inj, Mx.ofString_beq, Mx.lk_cons, Mx.pf_nil, Mx.pf_cons, Mx.sz1, Mx.sz2, List.lookup_nil, String.reduceEq, decide_true, decide_false, decide_eq_true_eq, Int.natAbs_natCast, L2.upd_same, L2.upd_upd, L2.cxOf, Mx.fsM, Mx.fsV, Mx.fsL, Mx.optV])
set_option hygiene false in
local macro_rules | `(tactic| walk_at "rds") => `(tactic| try simp only [L2.start, List.map_cons, List.map_nil, List.length_cons, List.length_nil, Nat.reduceAdd, Nat.reduceSub, Nat.reduceLT, Nat.reduceLeDiff, List.replicate_succ, List.replicate_zero, List.append_nil, List.nil_append, List.cons_append, List.set_cons_zero, List.set_cons_succ, List.getElem?_cons_zero, List.getElem?_cons_succ,
  Option.some.injEq, List.cons.injEq, and_true, true_and, and_assoc, reduceCtorEq, L2.V.int.injEq, L2.V.ref.injEq, L2.V.bl.injEq, L2.V.str.injEq, L2.V.ty.injEq, L2.HO.ins.injEq, L2.HO.lst.injEq, L2.HO.tup.injEq, L2.HO.dK.injEq, exists_eq_left', exists_eq_left, exists_eq_right, exists_eq', exists_eq, exists_and_left, exists_and_right, reduceIte, Bool.false_eq_true, Bool.not_true, Bool.not_false,
  L2.tSeq, L2.tIfS, L2.tRet, L2.tRetN, L2.tNext, L2.tAsg, L2.gName, L2.tVar, L2.tC, L2.tCons, L2.tNil, L2.tCB, L2.tOp, L2.tUn, L2.tTup, L2.tLst, L2.tB, L2.tOr, L2.tAnd, L2.tNot, L2.tAndV, L2.tOrV, L2.tNotV, L2.tIf, L2.tTest, L2.tChain, L2.rI, L2.rI0, L2.rU, L2.tDrop, L2.tNever, L2.tCall, L2.tMeth, L2.tMake, L2.rGcd, L2.tFld, L2.sFld, L2.sFldAug, Mx.sFldA, Mx.sFldAugA, L2.rAdd, L2.rSub, L2.rEq, L2.rNe, L2.tDGet, L2.tDIn, L2.tDNotIn, L2.sDPut,
  Mx.isi_int_bool, Mx.isi_int_int, Mx.isi_int_tuple, Mx.isi_int_list, Mx.isi_int_str, Mx.scal_int, Mx.scal_str, Mx.scal_bl, Mx.ofString_inj, Mx.ofString_beq, Mx.lk_cons, Mx.pf_nil, Mx.pf_cons, Mx.sz1, Mx.sz2, List.lookup_nil, String.reduceEq, decide_true, decide_false, decide_eq_true_eq, Int.natAbs_natCast, L2.upd_same, L2.upd_upd, L2.cxOf, Mx.fsM, Mx.fsV, Mx.fsL, Mx.optV, *])

section
variable {P : Program} {w : World} {K : PySem.W.Frag} {mg : Str → Option Value} {base : Heap} {cs : Cs} {C : Addr}
def sp_Mixer_beat (K : PySem.W.Frag) (cs : Cs) : Sp := fun vs H Q _ => ∃ (m d k : Addr) (s : MixS) (b : Nat), vs = [.ref m] ∧ MixAt K cs H m d k s ∧ MixOk b s ∧
  ∀ (r : V) (ys : List Int) (H' : Hp), ys.Perm (s.vs.map (·.1)) → ys.Pairwise (· ≤ ·) → IsQ K H' r (sumOf s ys) → MixAt K cs H' m d k (s.beat ys) → Stp (s.foot m d k) H H' → Q r H'
theorem sc_Mixer_beat : FnScope ["self", "total", "name", "voice"] ["self"] (defScope s_Mixer_beat) := ⟨rfl, rfl, rfl, by decide +kernel, rfl, by decide +kernel, by decide +kernel⟩
theorem ok_Mixer_beat {f : Addr} {fd : FuncData} (F : Fun K "beat" "Mixer.beat" s_Mixer_beat f fd) (T : TM K cs.M) (TVV : TV K cs.V) (TT : TC K mg) (B : Blt mg) (G1 : OwnM P w K mg base cs.L "lacks" 5 ["self", "beat"] (sp_Line_bool cs.L LineS.lacks))
    (G2 : OwnM P w K mg base cs.V "give" 7 ["self", "beat", "soft"] (sp_Voice_give K cs)) (G3 : OwnF P w K mg base "plus" 2 ["one", "other"] (sp_two (· + ·) K)) : FnOk P w K mg base CX0 8 f fd ["self"] (sp_Mixer_beat K cs) := by
  refine F.ok sc_Mixer_beat (fun vs H Q E h => ?_) (fun cdv A outer s H vs Q E hr h => ?_)
  · obtain ⟨m, d, k, s, b, rfl, _⟩ := h
    rfl
  · obtain ⟨m, d, k, s, b, rfl, hM, hO, q⟩ := h
    obtain ⟨aN, hN, hN2⟩ := TT.nothing
    have hu := hu_of hr
    refine ⟨_, pss_cons (ps_set (i := 1) sc_Mixer_beat.nd rfl (.inl rfl) (pe_glob (v := .ref aN) (by rfl) hN rfl))
      (pss_cons (ps_for PassesOwn.never rfl (pi_list (pe_callB (call_sortedDI rfl) (by rfl) B.sorted PyProof.Rows.boot_sorted (pa_cons (pe_fld (pv 0) rfl) pa_nil))) (pg_name (i := 2) sc_Mixer_beat.nd rfl (.inl rfl))
        (pss_cons (ps_set (i := 3) sc_Mixer_beat.nd rfl (.inl rfl) (pe_dget hu (pe_fld (pv 0) rfl) (pv 2) (fun _ _ => rfl)))
        (pss_cons (ps_if (pt_val (p_meth G1 (hr.mono (by decide)) (pe_fld (pv 3) rfl) (pa_cons (pe_fld (pv 0) rfl) pa_nil)))
          (pss_one (ps_expr (pe_bm PySem.F.plainAttrs_list PySem.F.slot_list_append PySem.F.type_list_append mt_append (pe_fld (pv 0) rfl) (pa_cons (pe_tup (pa_cons (pv 2) (pa_cons (pe_fld (pv 0) rfl) pa_nil))) pa_nil)))) pss_nil)
        (pss_one (ps_set (i := 1) sc_Mixer_beat.nd rfl (.inl rfl) (p_call G3 (hr.mono (by decide)) (pa_cons (pv 1) (pa_cons (p_meth G2 hr (pv 3) (pa_cons (pe_fld (pv 0) rfl) (pa_cons (pe_fld (pv 0) rfl) pa_nil))) pa_nil))))))))
      (pss_cons (ps_fldaugA (pv 0) pe_int in_add) (pss_one (ps_ret (pv 1))))), ?_⟩
    obtain ⟨cl, a1, a2, a3, a4⟩ := T
    obtain ⟨vcl, b1, _⟩ := TVV
    obtain ⟨dx, h1⟩ := id hM.ob
    have hdv := hM.dv
    walk_at "rds"
    have hlen6 : (s.vs.length + 1) * (b + 25) < 4400 := hO.bits
    have hvl : s.vs.length < 64 := Nat.lt_of_le_of_lt hO.six (by decide)
    refine ⟨_, rfl, m, cs.M, dx, _, _, rfl, h1, cl, a3, rfl, d, rfl, _, .inl hdv, s.vs.map (·.1), ?_, ?_, fun ys p hpm hpw hp0 => ⟨p, rfl, ⟨_, .inl (.inl upd_same)⟩, ?_⟩⟩
    · unfold vdict
      rw [List.map_map, List.map_map]
      rfl
    · rw [List.length_map]
      exact hvl
    have hpf : p ∉ s.foot m d k := fun z => hM.some p z hp0
    have s0 := Stp.new (o := .lst (ys.map V.int)) hp0
    have hndy : ys.Nodup := hpm.nodup_iff.mpr hM.nm
    have hsub : ∀ n ∈ ys, ∃ e ∈ s.vs, e.1 = n := fun n hn => by
      obtain ⟨e, he, q⟩ := List.mem_map.mp (hpm.mem_iff.mp hn)
      exact ⟨e, he, q⟩
    have hyl : ys.length = s.vs.length := by rw [hpm.length_eq, List.length_map]
    refine for_list (K := K) (a := p) (xs := ys.map V.int) (fun i σ H2 => ∃ tv v2 v3, σ = [some (.ref m), some tv, v2, v3] ∧ IsQ K H2 tv (sumOf s (ys.take i)) ∧ MixAt K cs H2 m d k (s.some' (ys.take i)) ∧ Stp (s.foot m d k) H H2 ∧ H2 p = some (.lst (ys.map V.int)))
      ⟨_, _, _, rfl, isQ0 hN2, by rw [List.take_zero, some_nil]; exact hM.st0 s0, s0.sub (by simp), upd_same⟩ (fun i σ H2 _ h => ?_) (fun i x σ H2 hi h => ?_) (fun σ H2 h => ?_)
    · obtain ⟨_, _, _, _, _, _, _, hp2⟩ := h
      exact .inl (.inl hp2)
    · obtain ⟨tv, v2, v3, rfl, htv, hM2, st2, hp2⟩ := h
      rw [List.getElem?_map] at hi
      obtain ⟨n, hn, rfl⟩ := Option.map_eq_some_iff.mp hi
      have hil : i < ys.length := (List.getElem?_eq_some_iff.mp hn).1
      have hnm : n ∈ ys := List.mem_of_getElem? hn
      obtain ⟨e, he, rfl⟩ := hsub n hnm
      have htk : ys.take (i + 1) = ys.take i ++ [e.1] := by rw [List.take_add_one, hn]; rfl
      have hni : e.1 ∉ ys.take i := by
        intro z
        have h2 := hndy.sublist (List.take_sublist (i + 1) ys)
        rw [htk, List.nodup_append] at h2
        exact h2.2.2 _ z _ (by simp) rfl
      have he2 : e ∈ (s.some' (ys.take i)).vs := by
        refine List.mem_map.mpr ⟨e, he, ?_⟩
        rw [if_neg hni]
      have hib : (i + 1) * (b + 25) ≤ s.vs.length * (b + 25) := Nat.mul_le_mul_right _ (by omega)
      have hsb : (s.vs.length + 1) * (b + 25) = s.vs.length * (b + 25) + (b + 25) := by rw [Nat.add_mul, Nat.one_mul]
      have hib1 : (i + 1) * (b + 25) = i * (b + 25) + (b + 25) := by rw [Nat.add_mul, Nat.one_mul]
      obtain ⟨dx2, h12⟩ := hM2.ob
      have hd2 := hM2.dv
      have gd := DGet.k (k := (Sum.inl e.1 : Key)) hd2
      rw [vdict_get hM2.nm he2] at gd
      have hv2 := hM2.vo e he2
      obtain ⟨dy2, pv2', hv2', gv2, _, _⟩ := hv2.ob
      obtain ⟨dl2, tp2, gl2, _⟩ := hv2.line.ob
      walk_at "rds"
      refine ⟨_, gd, ?_⟩
      walk_at "rds"
      refine ⟨e.2.1.l, e.2.1.c, e.2.2.line, s.coming, rfl, hv2.line, (hO.vo e he).line, fun H3 s3 => ?_⟩
      have hM3 := hM2.st0 s3
      have hrb : Rb (1 + i * (b + 25)) (sumOf s (ys.take i)) := by
        have := sum_rb hO hM.nm (ys.take i) fun n hn => hsub n (List.mem_of_mem_take hn)
        rw [List.length_take, Nat.min_eq_left (by omega)] at this
        exact this
      walk_at "rd"
      cases hlk : e.2.2.line.lacks s.coming with
      | false =>
        have hlk2 : e.2.2.line.lacks s.coming = true ∧ ([] : List (Int × Int)) = [(e.1, s.coming)] ∨ e.2.2.line.lacks s.coming = false ∧ ([] : List (Int × Int)) = [] := .inr ⟨hlk, rfl⟩
        rw [if_neg (by decide)]
        have hM4 : MixAt K cs H3 m d k { s.some' (ys.take i) with lacked := (s.some' (ys.take i)).lacked ++ [] } := by
          rw [List.append_nil]
          exact hM3
        have st4 := st2.trans s3
        have ht4 := htv.st s3
        have hp4 := s3.keep _ _ hp2 (by simp)
        have hv4 := hM4.vo e he2
        obtain ⟨dx4, g4⟩ := hM4.ob
        obtain ⟨dy4, pv4, hv4', gv4, _, _⟩ := hv4.ob
        walk_at "rds"
        refine ⟨e.2.1, e.2.2, s.coming, s.soft, b, rfl, hv4, hO.vo e he, hO.s1, hO.s2, hO.d0, by omega, fun r H5 hr5 hv5 s5 => ?_⟩
        obtain ⟨ar, rfl, tr⟩ := hr5
        obtain ⟨atv, rfl, ttv⟩ := ht4
        have hM5 := hM4.turn he2 s5 (fun x hx => hx) hv5
        refine ⟨atv, ar, sumOf s (ys.take i), (e.2.2.give s.coming s.soft).part, 1 + i * (b + 25), b + 24, rfl, ttv.st s5, tr, hrb, ((hO.vo e he).give hO.s1 hO.s2 s.coming).part, by omega, by omega, by omega, fun r6 H6 hp6 s6 l6 => ?_⟩
        have hfe : ∀ x ∈ e.2.1.foot, x ∈ s.foot m d k := fun x hx => by
          unfold MixS.foot
          exact List.mem_cons_of_mem _ (List.mem_cons_of_mem _ (List.mem_cons_of_mem _ (List.mem_flatMap.mpr ⟨e, he, hx⟩)))
        refine ⟨?_, ?_, ((st4.trans s5).trans s6).sub ?_, ?_⟩
        · rw [sumOf_snoc, partOf_mem hM.nm he]
          exact isQ_of l6
        · have := hM5.st0 s6
          rw [some_step hM.nm he hni rfl hlk2] at this
          exact this
        · intro x hx
          simp only [List.append_nil, List.mem_append] at hx
          exact hx.elim id (hfe x)
        · exact s6.keep _ _ (s5.keep _ _ hp4 fun z => hpf (hfe _ z)) (by simp)
      | true =>
        have hlk2 : e.2.2.line.lacks s.coming = true ∧ [(e.1, s.coming)] = [(e.1, s.coming)] ∨ e.2.2.line.lacks s.coming = false ∧ [(e.1, s.coming)] = [] := .inl ⟨hlk, rfl⟩
        rw [if_pos rfl]
        obtain ⟨ls, hl3, hpr3⟩ := hM3.lk
        obtain ⟨dx3, g3⟩ := hM3.ob
        refine ⟨_, rfl, m, cs.M, dx3, _, _, rfl, g3, cl, a4, rfl, .inl ⟨rfl, _, .inl (.inl hl3)⟩, ?_⟩
        refine ⟨_, rfl, _, rfl, m, cs.M, dx3, _, _, rfl, g3, cl, a2, rfl, by show 2 ≤ sizeLine; decide, fun T hT => ?_⟩
        have sT := Stp.new (o := .tup [.int e.1, .int (s.some' (ys.take i)).coming]) hT
        have hl4 := sT.keep _ _ hl3 (by simp)
        have hM4 : MixAt K cs (upd (upd H3 T (.tup [.int e.1, .int (s.some' (ys.take i)).coming])) k (.lst (ls ++ [.ref T]))) m d k { s.some' (ys.take i) with lacked := (s.some' (ys.take i)).lacked ++ [(e.1, s.coming)] } := (hM3.st0 sT).lack hl4 (T := T) (n := e.1) (b := (s.some' (ys.take i)).coming) upd_same
        have sL := Stp.put (o := .lst (ls ++ [.ref T])) hl4 (fun xs z => nomatch z)
        have hll := hM3.low hl3
        refine ⟨k, ls, .ref T, rfl, rfl, hl4, ?_, ?_⟩
        · rw [hll]
          have h1 : (s.some' (ys.take i)).lacked.length ≤ s.lacked.length + i := by
            show (s.lacked ++ ((ys.take i).filter (lackN s.vs s.coming)).map fun n => (n, s.coming)).length ≤ _
            rw [List.length_append, List.length_map]
            have := List.length_filter_le (lackN s.vs s.coming) (ys.take i)
            rw [List.length_take] at this
            omega
          have := hO.lk
          exact Nat.lt_of_le_of_lt (show _ ≤ 100000 by omega) (by decide)
        have st4 := ((st2.trans s3).trans sT).trans sL
        have ht4 := ((htv.st s3).st sT).st sL
        have hkp : p ≠ k := fun z => hpf (by rw [z]; simp [MixS.foot])
        have hp4 := sL.keep _ _ (sT.keep _ _ (s3.keep _ _ hp2 (by simp)) (by simp)) (by simpa using hkp)
        have hkf : k ∈ s.foot m d k := by simp [MixS.foot]
        have st4' := st4.sub (G := s.foot m d k) (by
          intro x hx
          simp only [List.append_nil, List.mem_append, List.mem_singleton] at hx
          exact hx.elim id fun z => z ▸ hkf)
        have st4 := st4'
        generalize upd (upd H3 T (.tup [.int e.1, .int (s.some' (ys.take i)).coming])) k (.lst (ls ++ [.ref T])) = H4 at *
        have hv4 := hM4.vo e he2
        obtain ⟨dx4, g4⟩ := hM4.ob
        obtain ⟨dy4, pv4, hv4', gv4, _, _⟩ := hv4.ob
        walk_at "rds"
        refine ⟨e.2.1, e.2.2, s.coming, s.soft, b, rfl, hv4, hO.vo e he, hO.s1, hO.s2, hO.d0, by omega, fun r H5 hr5 hv5 s5 => ?_⟩
        obtain ⟨ar, rfl, tr⟩ := hr5
        obtain ⟨atv, rfl, ttv⟩ := ht4
        have hM5 := hM4.turn he2 s5 (fun x hx => hx) hv5
        refine ⟨atv, ar, sumOf s (ys.take i), (e.2.2.give s.coming s.soft).part, 1 + i * (b + 25), b + 24, rfl, ttv.st s5, tr, hrb, ((hO.vo e he).give hO.s1 hO.s2 s.coming).part, by omega, by omega, by omega, fun r6 H6 hp6 s6 l6 => ?_⟩
        have hfe : ∀ x ∈ e.2.1.foot, x ∈ s.foot m d k := fun x hx => by
          unfold MixS.foot
          exact List.mem_cons_of_mem _ (List.mem_cons_of_mem _ (List.mem_cons_of_mem _ (List.mem_flatMap.mpr ⟨e, he, hx⟩)))
        refine ⟨?_, ?_, ((st4.trans s5).trans s6).sub ?_, ?_⟩
        · rw [sumOf_snoc, partOf_mem hM.nm he]
          exact isQ_of l6
        · have := hM5.st0 s6
          rw [some_step hM.nm he hni rfl hlk2] at this
          exact this
        · intro x hx
          simp only [List.append_nil, List.mem_append] at hx
          exact hx.elim id (hfe x)
        · exact s6.keep _ _ (s5.keep _ _ hp4 fun z => hpf (hfe _ z)) (by simp)
    · obtain ⟨tv, v2, v3, rfl, htv, hM2, st2, hp2⟩ := h
      rw [List.length_map, List.take_length] at htv hM2
      obtain ⟨dx2, h12⟩ := hM2.ob
      have hne := hM2.ne
      walk_at "rds"
      intro H3 g3 s3
      walk_at "rd"
      refine q tv ys H3 hpm hpw (htv.st s3) ?_ ((st2.trans s3).sub ?_)
      · obtain ⟨_, u2, ⟨ls, u3, u4⟩, u5, u6, u7, u8⟩ := hM2
        have ev : (s.some' ys).vs = (s.beat ys).vs := List.map_congr_left fun e he => by
          rw [if_pos (hpm.mem_iff.mpr (List.mem_map.mpr ⟨e, he, rfl⟩))]
        rw [ev] at u2 u5 u6 u7 u8
        exact ⟨⟨dx2, g3⟩, s3.keep _ _ u2 (by simpa using hne.1.symm), ⟨ls, s3.keep _ _ u3 (by simpa using hne.2.1.symm), pairs_st s3 u4⟩, fun e he => (u5 e he).st s3 fun x hx z => (u6 e he).1 (List.mem_singleton.mp z ▸ hx), u6, u7, u8⟩
      · intro x hx
        simp only [List.mem_append, List.mem_singleton] at hx
        exact hx.elim id fun z => by rw [z]; simp [MixS.foot]
end
end Mx

namespace Mx
open PySem L2
/-! ### the draws -/
/-- the row of draws at r: the script, where one is, what is mixed -/
def RowAt (K : PySem.W.Frag) (H : Hp) (r sc : Addr) (ns : List Int) : Prop := ∃ pos mix : Int, 0 ≤ pos ∧ 0 ≤ mix ∧ mix < 2147483647 ∧ H r = some (.lst [.ref sc, .int pos, .int mix]) ∧ SqL K H sc (ns.map V.int) ∧ (sc ≠ r ∨ ∀ H' : Hp, SqL K H' sc (ns.map V.int))
theorem seq_or {K : PySem.W.Frag} {H H' : Hp} {a r : Addr} {xs : List V} (h : SqL K H a xs) (s : Stp [r] H H') (n : a ≠ r ∨ ∀ H' : Hp, SqL K H' a xs) : SqL K H' a xs := n.elim (fun q => seq_st h s (by simpa using q)) fun q => q H'
theorem RowAt.st {K : PySem.W.Frag} {F : List Addr} {H H' : Hp} {r sc : Addr} {ns : List Int} (h : RowAt K H r sc ns) (s : Stp F H H') (h1 : r ∉ F) (h2 : sc ∉ F) : RowAt K H' r sc ns := by
  obtain ⟨pos, mix, p0, m0, m1, hr, hs, hn⟩ := h
  exact ⟨pos, mix, p0, m0, m1, s.keep _ _ hr h1, seq_st hs s h2, hn⟩
theorem RowAt.st0 {K : PySem.W.Frag} {H H' : Hp} {r sc : Addr} {ns : List Int} (h : RowAt K H r sc ns) (s : Stp [] H H') : RowAt K H' r sc ns := h.st s (by simp) (by simp)
def sp_taken (K : PySem.W.Frag) : Sp := fun vs H Q _ => ∃ (r sc : Addr) (ns : List Int) (many : Int), vs = [.ref r, .int many] ∧ RowAt K H r sc ns ∧ 1 ≤ many ∧ ∀ v H', 0 ≤ v → v < many → RowAt K H' r sc ns → Stp [r] H H' → Q (.int v) H'
theorem at3_0 {x y z : V} : atI [x, y, z] 0 = some x := rfl
theorem at3_1 {x y z : V} : atI [x, y, z] 1 = some y := rfl
theorem at3_2 {x y z : V} : atI [x, y, z] 2 = some z := rfl
theorem ixL {K : PySem.W.Frag} {H : Hp} {p : Addr} {xs : List V} {i : Int} {x : V} {Q : VK} (h : SqL K H p xs) (ha : atI xs i = some x) (q : Q x H) : rIxL K (.ref p) (.int i) H Q := ⟨p, xs, i, x, rfl, rfl, h, ha, q⟩
theorem setL {H : Hp} {p : Addr} {xs : List V} {i : Int} {j : Nat} {v : V} {Q : Hp → Prop} (h : H p = some (.lst xs)) (hi : ixN xs.length i = some j) (q : ∀ H', H' p = some (.lst (xs.set j v)) → Stp [p] H H' → Q H') : rSetL (.ref p) (.int i) v H Q :=
  ⟨p, xs, i, j, rfl, rfl, h, hi, q _ upd_same (Stp.put h fun xs z => nomatch z)⟩
theorem at_nat {ns : List Int} {i : Int} (h0 : 0 ≤ i) (h1 : i < ns.length) : ∃ n, n ∈ ns ∧ atI (ns.map V.int) i = some (.int n) := by
  have hl : i.toNat < ns.length := by omega
  refine ⟨ns[i.toNat], List.getElem_mem hl, ?_⟩
  unfold atI ixN
  rw [if_pos h0, List.length_map, if_pos h1]
  show (ns.map V.int)[i.toNat]? = _
  rw [List.getElem?_map, List.getElem?_eq_getElem hl]
  rfl
set_option hygiene false in
local macro_rules | `(tactic| walk_at "rd") => `(tactic| try simp only [L2.start, List.map_cons, List.map_nil, List.length_cons, List.length_nil, Nat.reduceAdd, Nat.reduceSub, Nat.reduceLT, Nat.reduceLeDiff, List.replicate_succ, List.replicate_zero, List.append_nil, List.nil_append, List.cons_append, List.set_cons_zero, List.set_cons_succ, List.getElem?_cons_zero, List.getElem?_cons_succ,
  Option.some.injEq, List.cons.injEq, and_true, true_and, and_assoc, reduceCtorEq, L2.V.int.injEq, L2.V.ref.injEq, L2.V.bl.injEq, L2.V.str.injEq, L2.V.ty.injEq, L2.HO.ins.injEq, L2.HO.lst.injEq, L2.HO.tup.injEq, L2.HO.dK.injEq, exists_eq_left', exists_eq_left, exists_eq_right, exists_eq', exists_eq, exists_and_left, exists_and_right, reduceIte, Bool.false_eq_true, Bool.not_true, Bool.not_false,
  L2.tSeq, L2.tIfS, L2.tRet, L2.tRetN, L2.tNext, L2.tAsg, L2.gName, L2.tVar, L2.tC, L2.tCons, L2.tNil, L2.tCB, L2.tOp, L2.tUn, L2.tTup, L2.tLst, L2.tB, L2.tOr, L2.tAnd, L2.tNot, L2.tAndV, L2.tOrV, L2.tNotV, L2.tIf, L2.tTest, L2.tChain, L2.rI, L2.rI0, L2.rU, L2.tDrop, L2.tNever, L2.tCall, L2.tMeth, L2.tMake, L2.rGcd, L2.tFld, L2.sFld, L2.sFldAug, Mx.sFldA, Mx.sFldAugA, L2.rAdd, L2.rSub, L2.rEq, L2.rNe, L2.tDGet, L2.tDIn, L2.tDNotIn, L2.sDPut,
  Mx.isi_int_bool, Mx.isi_int_int, Mx.isi_int_tuple, Mx.isi_int_list, Mx.isi_int_str, Mx.scal_int, Mx.scal_str, Mx.scal_bl, Mx.ofString_inj, Mx.ofString_beq, Mx.lk_cons, Mx.pf_nil, Mx.pf_cons, Mx.sz1, Mx.sz2, List.lookup_nil, String.reduceEq, decide_true, decide_false, decide_eq_true_eq, Int.natAbs_natCast, L2.upd_same, L2.upd_upd, L2.cxOf, L2.gSub])
set_option hygiene false in
local macro_rules | `(tactic| walk_at "rds") => `(tactic| try simp only [L2.start, List.map_cons, List.map_nil, List.length_cons, List.length_nil, Nat.reduceAdd, Nat.reduceSub, Nat.reduceLT, Nat.reduceLeDiff, List.replicate_succ, List.replicate_zero, List.append_nil, List.nil_append, List.cons_append, List.set_cons_zero, List.set_cons_succ, List.getElem?_cons_zero, List.getElem?_cons_succ,
  Option.some.injEq, List.cons.injEq, and_true, true_and, and_assoc, reduceCtorEq, L2.V.int.injEq, L2.V.ref.injEq, L2.V.bl.injEq, L2.V.str.injEq, L2.V.ty.injEq, L2.HO.ins.injEq, L2.HO.lst.injEq, L2.HO.tup.injEq, L2.HO.dK.injEq, exists_eq_left', exists_eq_left, exists_eq_right, exists_eq', exists_eq, exists_and_left, exists_and_right, reduceIte, Bool.false_eq_true, Bool.not_true, Bool.not_false,
  L2.tSeq, L2.tIfS, L2.tRet, L2.tRetN, L2.tNext, L2.tAsg, L2.gName, L2.tVar, L2.tC, L2.tCons, L2.tNil, L2.tCB, L2.tOp, L2.tUn, L2.tTup, L2.tLst, L2.tB, L2.tOr, L2.tAnd, L2.tNot, L2.tAndV, L2.tOrV, L2.tNotV, L2.tIf, L2.tTest, L2.tChain, L2.rI, L2.rI0, L2.rU, L2.tDrop, L2.tNever, L2.tCall, L2.tMeth, L2.tMake, L2.rGcd, L2.tFld, L2.sFld, L2.sFldAug, Mx.sFldA, Mx.sFldAugA, L2.rAdd, L2.rSub, L2.rEq, L2.rNe, L2.tDGet, L2.tDIn, L2.tDNotIn, L2.sDPut,
  Mx.isi_int_bool, Mx.isi_int_int, Mx.isi_int_tuple, Mx.isi_int_list, Mx.isi_int_str, Mx.scal_int, Mx.scal_str, Mx.scal_bl, Mx.ofString_inj, Mx.ofString_beq, Mx.lk_cons, Mx.pf_nil, Mx.pf_cons, Mx.sz1, Mx.sz2, List.lookup_nil, String.reduceEq, decide_true, decide_false, decide_eq_true_eq, Int.natAbs_natCast, L2.upd_same, L2.upd_upd, L2.cxOf, L2.gSub, *])

section
variable {P : Program} {w : World} {K : PySem.W.Frag} {mg : Str → Option Value} {base : Heap}
theorem sc_law_taken : FnScope ["_law_row", "_law_many", "_law_cell"] ["_law_row", "_law_many"] (defScope s_law_taken) := ⟨rfl, rfl, rfl, by decide +kernel, rfl, by decide +kernel, by decide +kernel⟩
theorem ok_law_taken {f : Addr} {fd : FuncData} (F : Fun K "_law_taken" "_law_taken" s_law_taken f fd) (B : Blt mg) : FnOk P w K mg base CX0 1 f fd ["_law_row", "_law_many"] (sp_taken K) := by
  refine F.ok sc_law_taken (fun vs H Q E h => ?_) (fun cdv A outer s H vs Q E hr h => ?_)
  · obtain ⟨r, sc, ns, many, rfl, _⟩ := h
    rfl
  · obtain ⟨r, sc, ns, many, rfl, ⟨pos, mix, p0, m0, m1, hR, hS, hn⟩, h1, k⟩ := h
    refine ⟨_, pss_cons (ps_asg (pe_op op_add (pe_ix ix_list (pv 0) pe_int (fun _ _ => rfl)) pe_int) (pg_sub (pv 0) pe_int set_list))
      (pss_cons (ps_if (pt_cmpR op_gt (pe_ix ix_list (pv 0) pe_int (fun _ _ => rfl)) (pe_callB call_len_seq (by rfl) B.len PySem.boot_len (pa_cons (pe_ix ix_list (pv 0) pe_int (fun _ _ => rfl)) pa_nil)) (nomark _))
        (pss_cons (ps_asg (pe_op op_mod (pe_op op_add (pe_op op_mul (pe_ix ix_list (pv 0) pe_int (fun _ _ => rfl)) pe_int) pe_int) pe_int) (pg_sub (pv 0) pe_int set_list))
          (pss_one (ps_ret (pe_op op_mod (pe_op op_fdiv (pe_ix ix_list (pv 0) pe_int (fun _ _ => rfl)) pe_int) (pv 1))))) pss_nil)
      (pss_cons (ps_set (i := 2) sc_law_taken.nd rfl (.inl rfl) (pe_ix ix_list (pe_ix ix_list (pv 0) pe_int (fun _ _ => rfl)) (pe_op op_sub (pe_ix ix_list (pv 0) pe_int (fun _ _ => rfl)) pe_int) (fun _ _ => rfl)))
      (pss_cons (ps_asg (pe_op op_mod (pe_op op_add (pe_op op_add (pe_op op_mul (pe_ix ix_list (pv 0) pe_int (fun _ _ => rfl)) pe_int) (pv 2)) pe_int) pe_int) (pg_sub (pv 0) pe_int set_list))
      (pss_one (ps_ret (pe_op op_mod (pv 2) (pv 1)))))))
      , ?_⟩
    walk_at "rd"
    refine ixL (.inl (.inl hR)) at3_1 ?_
    walk_at "rd"
    refine setL hR (j := 1) rfl fun H1 g1 s1 => ?_
    have hS1 := seq_or hS s1 hn
    refine ixL (.inl (.inl g1)) at3_1 (ixL (.inl (.inl g1)) at3_0 ?_)
    walk_at "rd"
    refine ⟨_, .inl hS1, ?_⟩
    by_cases hp : pos + 1 > (((ns.map V.int).length : Nat) : Int)
    · walk_at "rd"
      rw [if_pos hp]
      refine ixL (.inl (.inl g1)) at3_2 ?_
      walk_at "rd"
      refine ⟨.inl ⟨by omega, by omega⟩, by decide, ?_⟩
      refine setL g1 (j := 2) rfl fun H2 g2 s2 => ?_
      refine ixL (.inl (.inl g2)) at3_2 ?_
      walk_at "rd"
      have e0 := Int.emod_nonneg (mix * 48271 + 11) (show (2147483647 : Int) ≠ 0 by decide)
      have e1 := Int.emod_lt_of_pos (mix * 48271 + 11) (show (0 : Int) < 2147483647 by decide)
      refine ⟨⟨by decide, by decide⟩, by omega, ?_⟩
      exact k _ H2 (Int.emod_nonneg _ (by omega)) (Int.emod_lt_of_pos _ (by omega)) ⟨pos + 1, _, by omega, e0, e1, g2, seq_or hS1 s2 hn, hn⟩ ((s1.trans s2).sub (by simp))
    · walk_at "rd"
      rw [if_neg hp]
      rw [List.length_map] at hp
      obtain ⟨n, _, hat⟩ := at_nat (ns := ns) (i := pos) p0 (by omega)
      refine ixL (.inl (.inl g1)) at3_0 (ixL (.inl (.inl g1)) at3_1 ?_)
      walk_at "rd"
      refine ixL hS1 (i := pos + 1 - 1) (by rw [show pos + 1 - 1 = pos by omega]; exact hat) ?_
      refine ixL (.inl (.inl g1)) at3_2 ?_
      walk_at "rd"
      refine ⟨.inl ⟨by omega, by omega⟩, by decide, ?_⟩
      refine setL g1 (j := 2) rfl fun H2 g2 s2 => ?_
      walk_at "rd"
      have e0 := Int.emod_nonneg (mix * 48271 + n + 11) (show (2147483647 : Int) ≠ 0 by decide)
      have e1 := Int.emod_lt_of_pos (mix * 48271 + n + 11) (show (0 : Int) < 2147483647 by decide)
      refine ⟨by omega, ?_⟩
      exact k _ H2 (Int.emod_nonneg _ (by omega)) (Int.emod_lt_of_pos _ (by omega)) ⟨pos + 1, _, by omega, e0, e1, g2, seq_or hS1 s2 hn, hn⟩ ((s1.trans s2).sub (by simp))
end
end Mx

namespace Mx
open PySem L2
set_option hygiene false in
local macro_rules | `(tactic| walk_at "rd") => `(tactic| try simp only [L2.start, List.map_cons, List.map_nil, List.length_cons, List.length_nil, Nat.reduceAdd, Nat.reduceSub, Nat.reduceLT, Nat.reduceLeDiff, List.replicate_succ, List.replicate_zero, List.append_nil, List.nil_append, List.cons_append, List.set_cons_zero, List.set_cons_succ, List.getElem?_cons_zero, List.getElem?_cons_succ,
  Option.some.injEq, List.cons.injEq, and_true, true_and, and_assoc, reduceCtorEq, L2.V.int.injEq, L2.V.ref.injEq, L2.V.bl.injEq, L2.V.str.injEq, L2.V.ty.injEq, L2.HO.ins.injEq, L2.HO.lst.injEq, L2.HO.tup.injEq, L2.HO.dK.injEq, exists_eq_left', exists_eq_left, exists_eq_right, exists_eq', exists_eq, exists_and_left, exists_and_right, reduceIte, Bool.false_eq_true, Bool.not_true, Bool.not_false,
  L2.tSeq, L2.tIfS, L2.tRet, L2.tRetN, L2.tNext, L2.tAsg, L2.gName, L2.tVar, L2.tC, L2.tCons, L2.tNil, L2.tCB, L2.tOp, L2.tUn, L2.tTup, L2.tLst, L2.tB, L2.tOr, L2.tAnd, L2.tNot, L2.tAndV, L2.tOrV, L2.tNotV, L2.tIf, L2.tTest, L2.tChain, L2.rI, L2.rI0, L2.rU, L2.tDrop, L2.tNever, L2.tCall, L2.tMeth, L2.tMake, L2.rGcd, L2.tFld, L2.sFld, L2.sFldAug, Mx.sFldA, Mx.sFldAugA, L2.rAdd, L2.rSub, L2.rEq, L2.rNe, L2.tDGet, L2.tDIn, L2.tDNotIn, L2.sDPut,
  Mx.isi_int_bool, Mx.isi_int_int, Mx.isi_int_tuple, Mx.isi_int_list, Mx.isi_int_str, Mx.scal_int, Mx.scal_str, Mx.scal_bl, Mx.ofString_inj, Mx.ofString_beq, Mx.lk_cons, Mx.pf_nil, Mx.pf_cons, Mx.sz1, Mx.sz2, List.lookup_nil, String.reduceEq, decide_true, decide_false, decide_eq_true_eq, Int.natAbs_natCast, L2.upd_same, L2.upd_upd, L2.cxOf, L2.gSub])
set_option hygiene false in
local macro_rules | `(tactic| walk_at "rds") => `(tactic| try simp only [L2.start, List.map_cons, List.map_nil, List.length_cons, List.length_nil, Nat.reduceAdd, Nat.reduceSub, Nat.reduceLT, Nat.reduceLeDiff, List.replicate_succ, List.replicate_zero, List.append_nil, List.nil_append, List.cons_append, List.set_cons_zero, List.set_cons_succ, List.getElem?_cons_zero, List.getElem?_cons_succ,
  Option.some.injEq, List.cons.injEq, and_true, true_and, and_assoc, reduceCtorEq, L2.V.int.injEq, L2.V.ref.injEq, L2.V.bl.injEq, L2.V.str.injEq, L2.V.ty.injEq, L2.HO.ins.injEq, L2.HO.lst.injEq, L2.HO.tup.injEq, L2.HO.dK.injEq, exists_eq_left', exists_eq_left, exists_eq_right, exists_eq', exists_eq, exists_and_left, exists_and_right, reduceIte, Bool.false_eq_true, Bool.not_true, Bool.not_false,
  L2.tSeq, L2.tIfS, L2.tRet, L2.tRetN, L2.tNext, L2.tAsg, L2.gName, L2.tVar, L2.tC, L2.tCons, L2.tNil, L2.tCB, L2.tOp, L2.tUn, L2.tTup, L2.tLst, L2.tB, L2.tOr, L2.tAnd, L2.tNot, L2.tAndV, L2.tOrV, L2.tNotV, L2.tIf, L2.tTest, L2.tChain, L2.rI, L2.rI0, L2.rU, L2.tDrop, L2.tNever, L2.tCall, L2.tMeth, L2.tMake, L2.rGcd, L2.tFld, L2.sFld, L2.sFldAug, Mx.sFldA, Mx.sFldAugA, L2.rAdd, L2.rSub, L2.rEq, L2.rNe, L2.tDGet, L2.tDIn, L2.tDNotIn, L2.sDPut,
  Mx.isi_int_bool, Mx.isi_int_int, Mx.isi_int_tuple, Mx.isi_int_list, Mx.isi_int_str, Mx.scal_int, Mx.scal_str, Mx.scal_bl, Mx.ofString_inj, Mx.ofString_beq, Mx.lk_cons, Mx.pf_nil, Mx.pf_cons, Mx.sz1, Mx.sz2, List.lookup_nil, String.reduceEq, decide_true, decide_false, decide_eq_true_eq, Int.natAbs_natCast, L2.upd_same, L2.upd_upd, L2.cxOf, L2.gSub, *])

section
variable {P : Program} {w : World} {K : PySem.W.Frag} {mg : Str → Option Value} {base : Heap}
/-! ### a fraction in lowest terms, by taking rests -/
theorem sc_law_share : FnScope ["_law_top", "_law_bottom", "_law_one", "_law_other"] ["_law_top", "_law_bottom"] (defScope s_law_share) := ⟨rfl, rfl, rfl, by decide +kernel, rfl, by decide +kernel, by decide +kernel⟩
def slot3 (σ : List (Option V)) : Nat := match σ[3]? with
  | some (some (V.int b)) => b.toNat
  | _ => 0
theorem ok_law_share {f : Addr} {fd : FuncData} (F : Fun K "_law_share" "_law_share" s_law_share f fd) (B : Blt mg) : FnOk P w K mg base CX0 1 f fd ["_law_top", "_law_bottom"] sp_ratio := by
  refine F.ok sc_law_share (fun vs H Q E h => ?_) (fun cdv A outer s H vs Q E hr h => ?_)
  · obtain ⟨t, b, rfl, _⟩ := h
    rfl
  · obtain ⟨t, b', rfl, h0', hb, k⟩ := h
    obtain ⟨b, rfl⟩ : ∃ b : Nat, b' = b := ⟨b'.toNat, by omega⟩
    have h0 : 0 < b := by omega
    rw [Int.natAbs_natCast] at hb
    rw [Int.toNat_natCast] at k
    have nd := sc_law_share.nd
    refine ⟨_, pss_cons (ps_par (i := 2) (j := 3) (by rfl) nd rfl rfl (by decide) rfl rfl (pa_cons (pe_callB call_abs (by rfl) B.abs PyProof.Rows.boot_abs (pa_cons (pv 0) pa_nil)) (pa_cons (pv 1) pa_nil)) (by rfl))
      (pss_cons (ps_while PassesOwn.never (pt_cmpR op_gt (pv 3) pe_int (nomark _)) (pss_one (ps_par (i := 2) (j := 3) (by rfl) nd rfl rfl (by decide) rfl rfl (pa_cons (pv 3) (pa_cons (pe_op op_mod (pv 2) (pv 3)) pa_nil)) (by rfl))))
      (pss_one (ps_ret (pe_tup (pa_cons (pe_op op_fdivW (pv 0) (pv 2)) (pa_cons (pe_op op_fdivW (pv 1) (pv 2)) pa_nil)))))), ?_⟩
    refine ⟨_, rfl, t, rfl, _, rfl, _, _, rfl, ?_⟩
    refine while_by (fun σ H' => H' = H ∧ ∃ x y : Nat, σ = [some (.int t), some (.int (b : Int)), some (.int (x : Int)), some (.int (y : Int))] ∧ Nat.gcd x y = Nat.gcd t.natAbs b ∧ (0 < x ∨ 0 < y)) (fun σ _ => slot3 σ) ⟨rfl, t.natAbs, b, ?_, rfl, .inr h0⟩ (fun σ H' h => ?_) (fun σ H' Q1 Q2 imp h => ?_)
    · have e : (if t < 0 then -t else t) = (t.natAbs : Int) := by
        split <;> omega
      rw [e]
      rfl
    · obtain ⟨rfl, x, y, rfl, hg, hp⟩ := h
      refine ⟨_, rfl, _, _, rfl, rfl, _, rfl, ?_⟩
      by_cases hy : (0 : Int) < (y : Int)
      · rw [decide_eq_true hy]
        simp only [reduceIte]
        refine ⟨_, rfl, _, rfl, _, rfl, _, _, rfl, rfl, hy, _, _, rfl, ⟨rfl, y, x % y, ?_, ?_, ?_⟩, ?_⟩
        · rfl
        · rw [Nat.gcd_comm, ← Nat.gcd_rec, Nat.gcd_comm]
          exact hg
        · exact .inl (by omega)
        · show (((x : Int) % (y : Int)).toNat) < ((y : Int)).toNat
          have : (x : Int) % (y : Int) < (y : Int) := Int.emod_lt_of_pos _ hy
          have : 0 ≤ (x : Int) % (y : Int) := Int.emod_nonneg _ (by omega)
          omega
      · rw [decide_eq_false hy]
        simp only [Bool.false_eq_true, reduceIte]
        have hy0 : y = 0 := by omega
        subst hy0
        rw [Nat.gcd_zero_right] at hg
        subst hg
        have hgp : 0 < Nat.gcd t.natAbs b := Nat.gcd_pos_of_pos_right _ h0
        have hgd : CDivW t ((Nat.gcd t.natAbs b : Nat) : Int) := wide_div (b := 9000) (by omega) (by rw [Int.natAbs_natCast]; exact Nat.lt_of_le_of_lt (Nat.gcd_le_right _ h0) hb) (by decide) (by decide)
        walk_at "rd"
        refine ⟨hgd, ⟨hgd.1, hgd.2⟩, fun p hp => k p _ hp (Stp.new hp) ?_⟩
        unfold frac
        rw [mk_num t b h0, mk_den t b h0]
        exact upd_same
    · obtain ⟨v, hv, i, j, e1, e2, c, ec, q⟩ := h
      exact ⟨v, hv, i, j, e1, e2, c, ec, imp _ _ q⟩
/-! ### numbers, paces, loudness -/
def sp_drawn (K : PySem.W.Frag) (lo hi : Int) : Sp := fun vs H Q _ => ∃ (r sc : Addr) (ns : List Int), vs = [.ref r] ∧ RowAt K H r sc ns ∧ ∀ v H', lo ≤ v → v ≤ hi → RowAt K H' r sc ns → Stp [r] H H' → Q (.int v) H'
theorem row_new {H : Hp} {r sc p : Addr} {ns : List Int} {o : HO} (h : RowAt K H r sc ns) (hp : H p = none) : RowAt K (upd H p o) r sc ns := h.st0 (Stp.new hp)
theorem sc_law_number : FnScope ["_law_row"] ["_law_row"] (defScope s_law_number) := ⟨rfl, rfl, rfl, by decide +kernel, rfl, by decide +kernel, by decide +kernel⟩
theorem ok_law_number {f : Addr} {fd : FuncData} (F : Fun K "_law_number" "_law_number" s_law_number f fd) (G : OwnF P w K mg base "_law_taken" 1 ["_law_row", "_law_many"] (sp_taken K)) : FnOk P w K mg base CX0 2 f fd ["_law_row"] (sp_drawn K (-999) 999) := by
  refine F.ok sc_law_number (fun vs H Q E h => ?_) (fun cdv A outer s H vs Q E hr h => ?_)
  · obtain ⟨r, sc, ns, rfl, _⟩ := h
    rfl
  · obtain ⟨r, sc, ns, rfl, hR, k⟩ := h
    refine ⟨_, pss_one (ps_ret (pe_ix ix_list (pe_lst (pa_cons (pe_op op_sub (p_call G hr (pa_cons (pv 0) (pa_cons pe_int pa_nil))) pe_int) (pa_cons (pe_op op_sub (p_call G hr (pa_cons (pv 0) (pa_cons pe_int pa_nil))) pe_int) pa_nil))) (p_call G hr (pa_cons (pv 0) (pa_cons pe_int pa_nil))) (fun _ _ => rfl))), ?_⟩
    walk_at "rd"
    refine ⟨r, sc, ns, 19, rfl, hR, by decide, fun a H1 a0 a1 hR1 s1 => ?_⟩
    walk_at "rd"
    refine ⟨r, sc, ns, 1999, rfl, hR1, by decide, fun b H2 b0 b1 hR2 s2 => ?_⟩
    walk_at "rd"
    intro p hp
    have s3 := Stp.new (o := .lst [.int (a - 9), .int (b - 999)]) hp
    refine ⟨r, sc, ns, 2, rfl, row_new hR2 hp, by decide, fun c H4 c0 c1 hR4 s4 => ?_⟩
    have hpr : p ≠ r := by
      obtain ⟨_, _, _, _, _, hr2, _⟩ := hR2
      exact (ne_of_none hr2 hp).symm
    have hl := s4.keep _ _ (upd_same (H := H2) (a := p) (o := .lst [.int (a - 9), .int (b - 999)])) (by simpa using hpr)
    have t4 := ((s1.trans s2).trans (s3.trans s4)).sub (G := [r]) (by simp)
    have hc : c = 0 ∨ c = 1 := by omega
    rcases hc with rfl | rfl
    · exact ixL (.inl (.inl hl)) (x := .int (a - 9)) rfl (k _ H4 (by omega) (by omega) hR4 t4)
    · exact ixL (.inl (.inl hl)) (x := .int (b - 999)) rfl (k _ H4 (by omega) (by omega) hR4 t4)
end
end Mx

namespace Mx
open PySem L2
set_option hygiene false in
local macro_rules | `(tactic| walk_at "rd") => `(tactic| try simp only [L2.start, List.map_cons, List.map_nil, List.length_cons, List.length_nil, Nat.reduceAdd, Nat.reduceSub, Nat.reduceLT, Nat.reduceLeDiff, List.replicate_succ, List.replicate_zero, List.append_nil, List.nil_append, List.cons_append, List.set_cons_zero, List.set_cons_succ, List.getElem?_cons_zero, List.getElem?_cons_succ,
  Option.some.injEq, List.cons.injEq, and_true, true_and, and_assoc, reduceCtorEq, L2.V.int.injEq, L2.V.ref.injEq, L2.V.bl.injEq, L2.V.str.injEq, L2.V.ty.injEq, L2.HO.ins.injEq, L2.HO.lst.injEq, L2.HO.tup.injEq, L2.HO.dK.injEq, exists_eq_left', exists_eq_left, exists_eq_right, exists_eq', exists_eq, exists_and_left, exists_and_right, reduceIte, Bool.false_eq_true, Bool.not_true, Bool.not_false,
  L2.tSeq, L2.tIfS, L2.tRet, L2.tRetN, L2.tNext, L2.tAsg, L2.gName, L2.tVar, L2.tC, L2.tCons, L2.tNil, L2.tCB, L2.tOp, L2.tUn, L2.tTup, L2.tLst, L2.tB, L2.tOr, L2.tAnd, L2.tNot, L2.tAndV, L2.tOrV, L2.tNotV, L2.tIf, L2.tTest, L2.tChain, L2.rI, L2.rI0, L2.rU, L2.tDrop, L2.tNever, L2.tCall, L2.tMeth, L2.tMake, L2.rGcd, L2.tFld, L2.sFld, L2.sFldAug, Mx.sFldA, Mx.sFldAugA, L2.rAdd, L2.rSub, L2.rEq, L2.rNe, L2.tDGet, L2.tDIn, L2.tDNotIn, L2.sDPut,
  Mx.isi_int_bool, Mx.isi_int_int, Mx.isi_int_tuple, Mx.isi_int_list, Mx.isi_int_str, Mx.scal_int, Mx.scal_str, Mx.scal_bl, Mx.ofString_inj, Mx.ofString_beq, Mx.lk_cons, Mx.pf_nil, Mx.pf_cons, Mx.sz1, Mx.sz2, List.lookup_nil, String.reduceEq, decide_true, decide_false, decide_eq_true_eq, Int.natAbs_natCast, L2.upd_same, L2.upd_upd, L2.cxOf, L2.gSub])
set_option hygiene false in
local macro_rules | `(tactic| walk_at "rds") => `(tactic| try simp only [L2.start, List.map_cons, List.map_nil, List.length_cons, List.length_nil, Nat.reduceAdd, Nat.reduceSub, Nat.reduceLT, Nat.reduceLeDiff, List.replicate_succ, List.replicate_zero, List.append_nil, List.nil_append, List.cons_append, List.set_cons_zero, List.set_cons_succ, List.getElem?_cons_zero, List.getElem?_cons_succ,
  Option.some.injEq, List.cons.injEq, and_true, true_and, and_assoc, reduceCtorEq, L2.V.int.injEq, L2.V.ref.injEq, L2.V.bl.injEq, L2.V.str.injEq, L2.V.ty.injEq, L2.HO.ins.injEq, L2.HO.lst.injEq, L2.HO.tup.injEq, L2.HO.dK.injEq, exists_eq_left', exists_eq_left, exists_eq_right, exists_eq', exists_eq, exists_and_left, exists_and_right, reduceIte, Bool.false_eq_true, Bool.not_true, Bool.not_false,
  L2.tSeq, L2.tIfS, L2.tRet, L2.tRetN, L2.tNext, L2.tAsg, L2.gName, L2.tVar, L2.tC, L2.tCons, L2.tNil, L2.tCB, L2.tOp, L2.tUn, L2.tTup, L2.tLst, L2.tB, L2.tOr, L2.tAnd, L2.tNot, L2.tAndV, L2.tOrV, L2.tNotV, L2.tIf, L2.tTest, L2.tChain, L2.rI, L2.rI0, L2.rU, L2.tDrop, L2.tNever, L2.tCall, L2.tMeth, L2.tMake, L2.rGcd, L2.tFld, L2.sFld, L2.sFldAug, Mx.sFldA, Mx.sFldAugA, L2.rAdd, L2.rSub, L2.rEq, L2.rNe, L2.tDGet, L2.tDIn, L2.tDNotIn, L2.sDPut,
  Mx.isi_int_bool, Mx.isi_int_int, Mx.isi_int_tuple, Mx.isi_int_list, Mx.isi_int_str, Mx.scal_int, Mx.scal_str, Mx.scal_bl, Mx.ofString_inj, Mx.ofString_beq, Mx.lk_cons, Mx.pf_nil, Mx.pf_cons, Mx.sz1, Mx.sz2, List.lookup_nil, String.reduceEq, decide_true, decide_false, decide_eq_true_eq, Int.natAbs_natCast, L2.upd_same, L2.upd_upd, L2.cxOf, L2.gSub, *])

section
variable {P : Program} {w : World} {K : PySem.W.Frag} {mg : Str → Option Value} {base : Heap}
theorem row_ne {H : Hp} {r sc p : Addr} {ns : List Int} (h : RowAt K H r sc ns) (hp : H p = none) : p ≠ r := by
  obtain ⟨_, _, _, _, _, hr2, _⟩ := h
  exact (ne_of_none hr2 hp).symm
def sp_law_pace (K : PySem.W.Frag) : Sp := fun vs H Q _ => ∃ (r sc : Addr) (ns : List Int), vs = [.ref r] ∧ RowAt K H r sc ns ∧ ∀ p H' pn pb, H p = none → 1 ≤ pn → pn ≤ 8 → 1 ≤ pb → pb ≤ 8 → RowAt K H' r sc ns → Stp [r] H H' → H' p = some (.tup [.int pn, .int pb]) → Q (.ref p) H'
theorem sc_law_pace : FnScope ["_law_row"] ["_law_row"] (defScope s_law_pace) := ⟨rfl, rfl, rfl, by decide +kernel, rfl, by decide +kernel, by decide +kernel⟩
theorem ok_law_pace {f : Addr} {fd : FuncData} (F : Fun K "_law_pace" "_law_pace" s_law_pace f fd) (G : OwnF P w K mg base "_law_taken" 1 ["_law_row", "_law_many"] (sp_taken K)) : FnOk P w K mg base CX0 2 f fd ["_law_row"] (sp_law_pace K) := by
  refine F.ok sc_law_pace (fun vs H Q E h => ?_) (fun cdv A outer s H vs Q E hr h => ?_)
  · obtain ⟨r, sc, ns, rfl, _⟩ := h
    rfl
  · obtain ⟨r, sc, ns, rfl, hR, k⟩ := h
    refine ⟨_, pss_one (ps_ret (pe_tup (pa_cons (pe_op op_add pe_int (p_call G hr (pa_cons (pv 0) (pa_cons (pe_ix ix_list (pe_lst (pa_cons pe_int (pa_cons pe_int pa_nil))) (p_call G hr (pa_cons (pv 0) (pa_cons pe_int pa_nil))) (fun _ _ => rfl)) pa_nil))))
      (pa_cons (pe_op op_add pe_int (p_call G hr (pa_cons (pv 0) (pa_cons (pe_ix ix_list (pe_lst (pa_cons pe_int (pa_cons pe_int pa_nil))) (p_call G hr (pa_cons (pv 0) (pa_cons pe_int pa_nil))) (fun _ _ => rfl)) pa_nil)))) pa_nil)))), ?_⟩
    walk_at "rd"
    intro p1 hp1
    have s1 := Stp.new (o := .lst [.int 2, .int 8]) hp1
    have hn1 := row_ne hR hp1
    refine ⟨r, sc, ns, 2, rfl, row_new hR hp1, by decide, fun c H2 c0 c1 hR2 s2 => ?_⟩
    have hl1 := s2.keep _ _ (upd_same (H := H) (a := p1) (o := .lst [.int 2, .int 8])) (by simpa using hn1)
    have hx : ∃ x : Int, 2 ≤ x ∧ x ≤ 8 ∧ atI [V.int 2, V.int 8] c = some (.int x) := by
      have hc : c = 0 ∨ c = 1 := by omega
      rcases hc with rfl | rfl
      · exact ⟨2, by decide, by decide, rfl⟩
      · exact ⟨8, by decide, by decide, rfl⟩
    obtain ⟨x, x0, x1, hx⟩ := hx
    refine ixL (.inl (.inl hl1)) hx ?_
    refine ⟨r, sc, ns, x, rfl, hR2, by omega, fun a H3 a0 a1 hR3 s3 => ?_⟩
    have t3 := ((s1.trans s2).trans s3).sub (G := [r]) (by simp)
    walk_at "rd"
    intro p4 hp4
    have s4 := Stp.new (o := .lst [.int 3, .int 8]) hp4
    have hn4 := row_ne hR3 hp4
    refine ⟨r, sc, ns, 2, rfl, row_new hR3 hp4, by decide, fun c2 H5 c20 c21 hR5 s5 => ?_⟩
    have hl4 := s5.keep _ _ (upd_same (H := H3) (a := p4) (o := .lst [.int 3, .int 8])) (by simpa using hn4)
    have hy : ∃ x : Int, 3 ≤ x ∧ x ≤ 8 ∧ atI [V.int 3, V.int 8] c2 = some (.int x) := by
      have hc : c2 = 0 ∨ c2 = 1 := by omega
      rcases hc with rfl | rfl
      · exact ⟨3, by decide, by decide, rfl⟩
      · exact ⟨8, by decide, by decide, rfl⟩
    obtain ⟨y, y0, y1, hy⟩ := hy
    refine ixL (.inl (.inl hl4)) hy ?_
    refine ⟨r, sc, ns, y, rfl, hR5, by omega, fun b H6 b0 b1 hR6 s6 => ?_⟩
    have t6 := ((t3.trans s4).trans (s5.trans s6)).sub (G := [r]) (by simp)
    walk_at "rd"
    intro p hp
    have hpn := row_ne hR6 hp
    exact k p _ (1 + a) (1 + b) (t6.free hp (by simpa using hpn)) (by omega) (by omega) (by omega) (by omega) (row_new hR6 hp) ((t6.trans (Stp.new hp)).sub (by simp)) upd_same
/-! ### the same, and of the same kinds -/
def sp_alike_int : Sp := fun vs H Q _ => ∃ (a b : Int), vs = [.int a, .int b] ∧ Q (.bl (decide (a = b))) H
def sp_alike_tup (K : PySem.W.Frag) : Sp := fun vs H Q _ => ∃ (a b : Addr) (xs ys : List Int), vs = [.ref a, .ref b] ∧ TupAt K H a (xs.map V.int) ∧ TupAt K H b (ys.map V.int) ∧ xs.length = ys.length ∧ ys.length ≤ 60 ∧ ∀ H', Stp [] H H' → Q (.bl (decide (xs = ys))) H'
theorem tyx_tup {H : Hp} {a : Addr} {xs : List V} (h : TupAt K H a xs) : TyX K H (.ref a) (.type "tuple") := by
  rcases h with h | h
  · exact .base (.tup h)
  · rcases h (fun _ => none) with (q | ⟨o, q⟩) | ⟨o, its, n, h1, h2, _⟩
    · cases q
    · cases q
    · exact .kTuple h1 h2
theorem isi_tupA {H : Hp} {Q : VK} {a : Addr} {xs : List V} {T : String} {b : Bool} (h : TupAt K H a xs) (hb : kitB "tuple" T = some b) (q : Q (.bl b) H) : rIsi K [.ref a, .ty T] H Q := ⟨_, _, _, _, _, rfl, .ty _, tyx_tup h, kit_ty hb, q⟩
theorem dp_ints {H : Hp} : ∀ (ns : List Int), DpAll K H (ns.map V.int) (ns.map PyData.int)
  | [] => .nil
  | n :: r => .cons (.int n) (dp_ints r)
theorem eqv_nil (ns : List Int) : PyData.eqv (.list (ns.map PyData.int)) (.list []) = ns.isEmpty := by
  cases ns with
  | nil => rfl
  | cons n r => rfl
def diffs (xs ys : List Int) (i : Nat) : List Int := ((List.range i).filter fun j => decide (xs[j]? ≠ ys[j]?)).map fun j => ((j : Nat) : Int)
theorem diffs_succ (xs ys : List Int) (i : Nat) : diffs xs ys (i + 1) = diffs xs ys i ++ (if xs[i]? ≠ ys[i]? then [(i : Int)] else []) := by
  unfold diffs
  rw [List.range_succ, List.filter_append, List.map_append]
  congr 1
  by_cases h : xs[i]? ≠ ys[i]?
  · rw [if_pos h, List.filter_cons_of_pos (by simpa using h)]
    rfl
  · rw [if_neg h, List.filter_cons_of_neg (by simpa using h)]
    rfl
theorem diffs_len (xs ys : List Int) (i : Nat) : (diffs xs ys i).length ≤ i := by
  unfold diffs
  rw [List.length_map]
  refine Nat.le_trans (List.length_filter_le _ _) ?_
  rw [List.length_range]
  exact Nat.le_refl _
theorem diffs_nil {xs ys : List Int} (h : xs.length = ys.length) : (diffs xs ys ys.length).isEmpty = decide (xs = ys) := by
  by_cases e : xs = ys
  · subst e
    simp [diffs]
  · rw [decide_eq_false e]
    unfold diffs
    cases q : ((List.range ys.length).filter fun j => decide (xs[j]? ≠ ys[j]?)) with
    | cons a r => rfl
    | nil =>
      exfalso
      apply e
      apply List.ext_getElem? 
      intro j
      by_cases hj : j < ys.length
      · have := List.filter_eq_nil_iff.mp q j (List.mem_range.mpr hj)
        simpa using this
      · rw [List.getElem?_eq_none (by omega), List.getElem?_eq_none (by omega)]
end
end Mx

namespace Mx
open PySem L2
set_option hygiene false in
local macro_rules | `(tactic| walk_at "rd") => `(tactic| try simp only [L2.start, List.map_cons, List.map_nil, List.length_cons, List.length_nil, Nat.reduceAdd, Nat.reduceSub, Nat.reduceLT, Nat.reduceLeDiff, List.replicate_succ, List.replicate_zero, List.append_nil, List.nil_append, List.cons_append, List.set_cons_zero, List.set_cons_succ, List.getElem?_cons_zero, List.getElem?_cons_succ,
  Option.some.injEq, List.cons.injEq, and_true, true_and, and_assoc, reduceCtorEq, L2.V.int.injEq, L2.V.ref.injEq, L2.V.bl.injEq, L2.V.str.injEq, L2.V.ty.injEq, L2.HO.ins.injEq, L2.HO.lst.injEq, L2.HO.tup.injEq, L2.HO.dK.injEq, exists_eq_left', exists_eq_left, exists_eq_right, exists_eq', exists_eq, exists_and_left, exists_and_right, reduceIte, Bool.false_eq_true, Bool.not_true, Bool.not_false,
  L2.tSeq, L2.tIfS, L2.tRet, L2.tRetN, L2.tNext, L2.tAsg, L2.gName, L2.tVar, L2.tC, L2.tCons, L2.tNil, L2.tCB, L2.tOp, L2.tUn, L2.tTup, L2.tLst, L2.tB, L2.tOr, L2.tAnd, L2.tNot, L2.tAndV, L2.tOrV, L2.tNotV, L2.tIf, L2.tTest, L2.tChain, L2.rI, L2.rI0, L2.rU, L2.tDrop, L2.tNever, L2.tCall, L2.tMeth, L2.tMake, L2.rGcd, L2.tFld, L2.sFld, L2.sFldAug, Mx.sFldA, Mx.sFldAugA, L2.rAdd, L2.rSub, L2.rEq, L2.rNe, L2.tDGet, L2.tDIn, L2.tDNotIn, L2.sDPut,
  Mx.isi_int_bool, Mx.isi_int_int, Mx.isi_int_tuple, Mx.isi_int_list, Mx.isi_int_str, Mx.scal_int, Mx.scal_str, Mx.scal_bl, Mx.ofString_inj, Mx.ofString_beq, Mx.lk_cons, Mx.pf_nil, Mx.pf_cons, Mx.sz1, Mx.sz2, List.lookup_nil, String.reduceEq, decide_true, decide_false, decide_eq_true_eq, Int.natAbs_natCast, L2.upd_same, L2.upd_upd, L2.cxOf, L2.gSub])
set_option hygiene false in
local macro_rules | `(tactic| walk_at "rds") => `(tactic| try simp only [L2.start, List.map_cons, List.map_nil, List.length_cons, List.length_nil, Nat.reduceAdd, Nat.reduceSub, Nat.reduceLT, Nat.reduceLeDiff, List.replicate_succ, List.replicate_zero, List.append_nil, List.nil_append, List.cons_append, List.set_cons_zero, List.set_cons_succ, List.getElem?_cons_zero, List.getElem?_cons_succ,
  Option.some.injEq, List.cons.injEq, and_true, true_and, and_assoc, reduceCtorEq, L2.V.int.injEq, L2.V.ref.injEq, L2.V.bl.injEq, L2.V.str.injEq, L2.V.ty.injEq, L2.HO.ins.injEq, L2.HO.lst.injEq, L2.HO.tup.injEq, L2.HO.dK.injEq, exists_eq_left', exists_eq_left, exists_eq_right, exists_eq', exists_eq, exists_and_left, exists_and_right, reduceIte, Bool.false_eq_true, Bool.not_true, Bool.not_false,
  L2.tSeq, L2.tIfS, L2.tRet, L2.tRetN, L2.tNext, L2.tAsg, L2.gName, L2.tVar, L2.tC, L2.tCons, L2.tNil, L2.tCB, L2.tOp, L2.tUn, L2.tTup, L2.tLst, L2.tB, L2.tOr, L2.tAnd, L2.tNot, L2.tAndV, L2.tOrV, L2.tNotV, L2.tIf, L2.tTest, L2.tChain, L2.rI, L2.rI0, L2.rU, L2.tDrop, L2.tNever, L2.tCall, L2.tMeth, L2.tMake, L2.rGcd, L2.tFld, L2.sFld, L2.sFldAug, Mx.sFldA, Mx.sFldAugA, L2.rAdd, L2.rSub, L2.rEq, L2.rNe, L2.tDGet, L2.tDIn, L2.tDNotIn, L2.sDPut,
  Mx.isi_int_bool, Mx.isi_int_int, Mx.isi_int_tuple, Mx.isi_int_list, Mx.isi_int_str, Mx.scal_int, Mx.scal_str, Mx.scal_bl, Mx.ofString_inj, Mx.ofString_beq, Mx.lk_cons, Mx.pf_nil, Mx.pf_cons, Mx.sz1, Mx.sz2, List.lookup_nil, String.reduceEq, decide_true, decide_false, decide_eq_true_eq, Int.natAbs_natCast, L2.upd_same, L2.upd_upd, L2.cxOf, L2.gSub, *])

section
variable {P : Program} {w : World} {K : PySem.W.Frag} {mg : Str → Option Value} {base : Heap}
/-! ### the same at every place, however deep -/
def EqB (v w : V) : Prop := (∃ i, v = .int i ∧ w = .int i) ∨ (∃ x, PyData.strOk x = true ∧ v = .str x ∧ w = .str x) ∨ (v = .non ∧ w = .non)
def EqT (K : PySem.W.Frag) (H : Hp) : Nat → V → V → Prop
  | 0, v, w => EqB v w
  | n + 1, v, w => EqB v w ∨ ∃ (a b : Addr) (xs ys : List V), v = .ref a ∧ w = .ref b ∧ (TupAt K H a xs ∧ TupAt K H b ys ∨ H a = some (.lst xs) ∧ H b = some (.lst ys)) ∧ xs.length ≤ 100000 ∧ Paired (EqT K H n) xs ys
abbrev EqS (K : PySem.W.Frag) (H : Hp) (n : Nat) := Paired (EqT K H n)
theorem pr_map {α β : Type} {R S : α → β → Prop} (f : ∀ a b, R a b → S a b) : ∀ {xs : List α} {ys : List β}, Paired R xs ys → Paired S xs ys
  | _, _, .nil => .nil
  | _, _, .cons h r => .cons (f _ _ h) (pr_map f r)
theorem EqT.stF {F : List Addr} {H H' : Hp} (s : Stp F H H') (hF : ∀ b ∈ F, ∀ xs, H b ≠ some (.lst xs)) : ∀ {n : Nat} {v w : V}, EqT K H n v w → EqT K H' n v w
  | 0, _, _, h => h
  | n + 1, v, w, h => by
    rcases h with h | ⟨a, b, xs, ys, e1, e2, h, hl, hp⟩
    · exact .inl h
    · refine .inr ⟨a, b, xs, ys, e1, e2, ?_, hl, pr_map (fun _ _ q => EqT.stF s hF q) hp⟩
      rcases h with ⟨h1, h2⟩ | ⟨h1, h2⟩
      · exact .inl ⟨h1.st s, h2.st s⟩
      · exact .inr ⟨s.keep _ _ h1 fun z => hF _ z _ h1, s.keep _ _ h2 fun z => hF _ z _ h2⟩
theorem EqT.st {H H' : Hp} {n : Nat} {v w : V} (h : EqT K H n v w) (s : Stp [] H H') : EqT K H' n v w := h.stF s (fun _ z => nomatch z)
theorem EqS.st {H H' : Hp} {n : Nat} {xs ys : List V} (h : Paired (EqT K H n) xs ys) (s : Stp [] H H') : Paired (EqT K H' n) xs ys := pr_map (fun _ _ q => q.st s) h
theorem EqT.up {H : Hp} : ∀ {n : Nat} {v w : V}, EqT K H n v w → EqT K H (n + 1) v w
  | 0, _, _, h => .inl h
  | n + 1, v, w, h => by
    rcases h with h | ⟨a, b, xs, ys, e1, e2, h, hl, hp⟩
    · exact .inl h
    · exact .inr ⟨a, b, xs, ys, e1, e2, h, hl, pr_map (fun _ _ q => q.up) hp⟩
theorem pr_get {α β : Type} {R : α → β → Prop} : ∀ {xs : List α} {ys : List β}, Paired R xs ys → ∀ i, i < xs.length → i < ys.length → ∃ x y, xs[i]? = some x ∧ ys[i]? = some y ∧ R x y
  | _, _, .nil, _, h, _ => absurd h (Nat.not_lt_zero _)
  | _, _, .cons h _, 0, _, _ => ⟨_, _, rfl, rfl, h⟩
  | _, _, .cons _ r, i + 1, h1, h2 => by
    obtain ⟨x, y, e1, e2, q⟩ := pr_get r i (Nat.lt_of_succ_lt_succ h1) (Nat.lt_of_succ_lt_succ h2)
    exact ⟨x, y, e1, e2, q⟩
theorem at_pos {xs : List V} {i : Nat} {x : V} (h : xs[i]? = some x) : atI xs (0 + (i : Int)) = some x := by
  obtain ⟨hl, _⟩ := List.getElem?_eq_some_iff.mp h
  unfold atI ixN
  rw [if_pos (by omega), if_pos (by omega)]
  show xs[(0 + (i : Int)).toNat]? = _
  rw [show (0 + (i : Int)).toNat = i by omega]
  exact h
theorem isi_lstA {H : Hp} {Q : VK} {a : Addr} {xs : List V} {T : String} {b : Bool} (h : H a = some (.lst xs)) (hb : kitB "list" T = some b) (q : Q (.bl b) H) : rIsi K [.ref a, .ty T] H Q := ⟨_, _, _, _, _, rfl, .ty _, .base (.lst h), kit_ty hb, q⟩
theorem isi_strA {H : Hp} {Q : VK} {x : Str} {T : String} {b : Bool} (hb : kitB "str" T = some b) (q : Q (.bl b) H) : rIsi K [.str x, .ty T] H Q := ⟨_, _, _, _, _, rfl, .ty _, .base (.str x), kit_ty hb, q⟩
theorem isi_nonA {H : Hp} {Q : VK} {T : String} {b : Bool} (hb : kitB "NoneType" T = some b) (q : Q (.bl b) H) : rIsi K [.non, .ty T] H Q := ⟨_, _, _, _, _, rfl, .ty _, .base .non, kit_ty hb, q⟩
def sp_eq (K : PySem.W.Frag) (n : Nat) : Sp := fun vs H Q _ => ∃ v w, vs = [v, w] ∧ EqT K H n v w ∧ ∀ H', Stp [] H H' → Q (.bl true) H'
theorem EqB.dp {H : Hp} {v w' : V} (h : EqB v w') : ∃ d, Dp K H v d ∧ Dp K H w' d ∧ d.canLay0 = true ∧ d.depth ≤ 1 ∧ PyData.eqv d d = true := by
  rcases h with ⟨i, rfl, rfl⟩ | ⟨x, hx, rfl, rfl⟩ | ⟨rfl, rfl⟩
  · exact ⟨_, .int i, .int i, by simp [PyData.canLay0], by simp [PyData.depth], by simp [PyData.eqv]⟩
  · exact ⟨_, .str x, .str x, by simpa [PyData.canLay0] using hx, by simp [PyData.depth], by simp [PyData.eqv]⟩
  · exact ⟨_, .non, .non, by simp [PyData.canLay0], by simp [PyData.depth], by simp [PyData.eqv]⟩
theorem all_dp {H : Hp} {n : Nat} (ih : ∀ v w', EqT K H n v w' → ∃ d, Dp K H v d ∧ Dp K H w' d ∧ d.canLay0 = true ∧ d.depth ≤ n + 1 ∧ PyData.eqv d d = true) : ∀ {xs ys : List V}, Paired (EqT K H n) xs ys →
    ∃ ds, DpAll K H xs ds ∧ DpAll K H ys ds ∧ PyData.canLayAll0 ds = true ∧ PyData.depthAll ds ≤ n + 1 ∧ PyData.eqvAll ds ds = true
  | _, _, .nil => ⟨[], .nil, .nil, by simp [PyData.canLayAll0], by simp [PyData.depthAll], by simp [PyData.eqvAll]⟩
  | _, _, .cons h r => by
    obtain ⟨d, a1, a2, a3, a4, a5⟩ := ih _ _ h
    obtain ⟨ds, b1, b2, b3, b4, b5⟩ := all_dp ih r
    exact ⟨d :: ds, .cons a1 b1, .cons a2 b2, by simp [PyData.canLayAll0, a3, b3], by simp only [PyData.depthAll]; omega, by simp [PyData.eqvAll, a5, b5]⟩
theorem EqT.dp {H : Hp} : ∀ (n : Nat) (v w' : V), EqT K H n v w' → ∃ d, Dp K H v d ∧ Dp K H w' d ∧ d.canLay0 = true ∧ d.depth ≤ n + 1 ∧ PyData.eqv d d = true
  | 0, v, w', h => EqB.dp h
  | n + 1, v, w', h => by
    rcases h with h | ⟨a, b, xs, ys, rfl, rfl, h, _, hp⟩
    · obtain ⟨d, a1, a2, a3, a4, a5⟩ := EqB.dp (K := K) (H := H) h
      exact ⟨d, a1, a2, a3, by omega, a5⟩
    · obtain ⟨ds, b1, b2, b3, b4, b5⟩ := all_dp (EqT.dp n) hp
      rcases h with ⟨h1, h2⟩ | ⟨h1, h2⟩
      · exact ⟨.tuple ds, .tup h1.sq b1, .tup h2.sq b2, by simp [PyData.canLay0, b3], by simp only [PyData.depth]; omega, by simp [PyData.eqv, b5]⟩
      · exact ⟨.list ds, .lst (.inl (.inl h1)) b1, .lst (.inl (.inl h2)) b2, by simp [PyData.canLay0, b3], by simp only [PyData.depth]; omega, by simp [PyData.eqv, b5]⟩
theorem eq_T {H : Hp} {n : Nat} {v w' : V} {Q : VK} (h : EqT K H n v w') (hn : n ≤ 60) (k : Q (.bl true) H) : rEqD K v w' H Q := by
  obtain ⟨d, a1, a2, a3, a4, a5⟩ := EqT.dp n _ _ h
  have hs : SeqAt.shaped d = true := by simp [SeqAt.shaped, a3]; omega
  exact ⟨d, d, a1, a2, hs, hs, by rw [a5]; exact k⟩
theorem ne_T {H : Hp} {n : Nat} {v w' : V} {Q : VK} (h : EqT K H n v w') (hn : n ≤ 60) (k : Q (.bl false) H) : rNeD K v w' H Q := by
  obtain ⟨d, a1, a2, a3, a4, a5⟩ := EqT.dp n _ _ h
  have hs : SeqAt.shaped d = true := by simp [SeqAt.shaped, a3]; omega
  exact ⟨d, d, a1, a2, hs, hs, by rw [a5]; exact k⟩
/-- fractions, pairs -/
theorem EqT.q {H : Hp} {v w' : V} {q : Rat} (h : IsQ K H v q) (g : IsQ K H w' q) : EqT K H 1 v w' := by
  obtain ⟨a, rfl, ha⟩ := h
  obtain ⟨b, rfl, hb⟩ := g
  exact .inr ⟨a, b, _, _, rfl, rfl, .inl ⟨ha, hb⟩, by show 2 ≤ 100000; decide, .cons (.inl ⟨_, rfl, rfl⟩) (.cons (.inl ⟨_, rfl, rfl⟩) .nil)⟩
end
end Mx

namespace Mx
open PySem L2
theorem row_mv {K : PySem.W.Frag} {H0 H H' : Hp} {F : List Addr} {r sc : Addr} {ns : List Int} (h0 : RowAt K H0 r sc ns) (h : RowAt K H r sc ns) (s : Stp F H H') (hr : r ∉ F) (s0 : Stp [r] H0 H') : RowAt K H' r sc ns := by
  obtain ⟨_, _, _, _, _, _, hs, hn⟩ := h0
  obtain ⟨pos, mix, p0, m0, m1, hrr, _, _⟩ := h
  exact ⟨pos, mix, p0, m0, m1, s.keep _ _ hrr hr, seq_or hs s0 hn, hn⟩
theorem dpAll_len {K : PySem.W.Frag} {H : Hp} : ∀ {vs : List V} {ds : List PyData}, DpAll K H vs ds → vs.length = ds.length
  | _, _, .nil => rfl
  | _, _, .cons _ r => by rw [List.length_cons, List.length_cons, dpAll_len r]
theorem ne_nilL {K : PySem.W.Frag} {H : Hp} {a b : Addr} {vs : List V} {n : Nat} {Q : VK} (ha : H a = some (.lst vs)) (hb : H b = some (.lst [])) (h : Paired (EqT K H n) vs vs) (hn : n ≤ 60) (k : Q (.bl (!vs.isEmpty)) H) : rNeD K (.ref a) (.ref b) H Q := by
  obtain ⟨ds, b1, _, b3, b4, _⟩ := all_dp (EqT.dp n) h
  have hs : SeqAt.shaped (.list ds) = true := by
    have : (PyData.list ds).depth ≤ 64 := by simp only [PyData.depth]; omega
    simp [SeqAt.shaped, PyData.canLay0, b3, this]
  refine ⟨.list ds, .list [], .lst (.inl (.inl ha)) b1, .lst (.inl (.inl hb)) .nil, hs, rfl, ?_⟩
  have e : PyData.eqv (.list ds) (.list []) = vs.isEmpty := by
    have := dpAll_len b1
    cases ds with
    | nil => 
      have : vs = [] := List.length_eq_zero_iff.mp this
      rw [this]
      rfl
    | cons d r =>
      cases vs with
      | nil => simp at this
      | cons v t => rfl
  rw [e]
  exact k
theorem ints_refl {K : PySem.W.Frag} {H : Hp} {n : Nat} : ∀ (ns : List Int), Paired (EqT K H n) (ns.map V.int) (ns.map V.int)
  | [] => .nil
  | i :: r => .cons (by cases n with | zero => exact .inl ⟨i, rfl, rfl⟩ | succ n => exact .inl (.inl ⟨i, rfl, rfl⟩)) (ints_refl r)
end Mx

namespace Mx
open PySem L2
/-! ### numbers that came in parcels of thirty-two -/
def Cov (c : List (Int × Int)) (xs : List Int) (n : Nat) : Prop := ∀ i : Int, look c i = if 0 ≤ i ∧ i < (n : Int) then xs[i.toNat]? else none
theorem look_put1 {c : List (Int × Int)} {i x : Int} (h : look c i = none) (j : Int) : look (put1 c i x) j = if j = i then some x else look c j := by
  unfold put1
  rw [h]
  show look (c ++ [(i, x)]) j = _
  unfold look at h ⊢
  rw [List.find?_append]
  by_cases e : j = i
  · subst e
    rw [if_pos rfl]
    cases q : c.find? fun p => decide (p.1 = j) with
    | none => simp
    | some p => rw [q] at h; cases h
  · rw [if_neg e]
    cases q : c.find? fun p => decide (p.1 = j) with
    | none => simp [Ne.symm e]
    | some p => rfl
theorem cov_one {c : List (Int × Int)} {xs : List Int} {n : Nat} {x : Int} (h : Cov c xs n) (hx : xs[n]? = some x) : Cov (put1 c n x) xs (n + 1) := by
  have hn : look c (n : Int) = none := by rw [h, if_neg (by omega)]
  intro j
  rw [look_put1 hn]
  by_cases e : j = (n : Int)
  · subst e
    rw [if_pos rfl, if_pos (by omega)]
    rw [show ((n : Int)).toNat = n by omega, hx]
  · rw [if_neg e, h j]
    by_cases z : 0 ≤ j ∧ j < (n : Int)
    · rw [if_pos z, if_pos (by omega)]
    · rw [if_neg z, if_neg (by omega)]
theorem cov_all {xs : List Int} : ∀ (m : Nat) (c : List (Int × Int)) (n : Nat), n + m ≤ xs.length → Cov c xs n → Cov (putAll c (n : Int) ((xs.drop n).take m)) xs (n + m)
  | 0, c, n, _, h => by
    rw [List.take_zero]
    exact h
  | m + 1, c, n, hl, h => by
    have hx : xs[n]? = some (xs[n]'(by omega)) := List.getElem?_eq_getElem _
    have e : (xs.drop n).take (m + 1) = (xs[n]'(by omega)) :: (xs.drop (n + 1)).take m := by
      rw [List.drop_eq_getElem_cons (by omega), List.take_succ_cons]
    rw [e]
    show Cov (putAll (put1 c n _) ((n : Int) + 1) _) xs _
    have h2 := cov_all m (put1 c n (xs[n]'(by omega))) (n + 1) (by omega) (cov_one h hx)
    rw [show (((n + 1 : Nat)) : Int) = (n : Int) + 1 by omega] at h2
    rw [show n + (m + 1) = n + 1 + m by omega]
    exact h2
theorem put1_in {c : List (Int × Int)} {i x : Int} (h : ∀ p ∈ c, -999 ≤ p.2 ∧ p.2 ≤ 999) (hx : -999 ≤ x ∧ x ≤ 999) : ∀ p ∈ put1 c i x, -999 ≤ p.2 ∧ p.2 ≤ 999 := by
  unfold put1
  split
  · exact h
  · intro p hp
    rcases List.mem_append.mp hp with q | q
    · exact h p q
    · rw [List.mem_singleton.mp q]
      exact hx
theorem putAll_in : ∀ (ns : List Int) (c : List (Int × Int)) (i : Int), (∀ p ∈ c, -999 ≤ p.2 ∧ p.2 ≤ 999) → (∀ n ∈ ns, -999 ≤ n ∧ n ≤ 999) → ∀ p ∈ putAll c i ns, -999 ≤ p.2 ∧ p.2 ≤ 999
  | [], _, _, h, _ => h
  | n :: r, c, i, h, hn => putAll_in r (put1 c i n) (i + 1) (put1_in h (hn n List.mem_cons_self)) fun m hm => hn m (List.mem_cons_of_mem _ hm)

/-! ### a voice that has all its numbers -/
/-- where a beat is, and whether it is within the numbers -/
structure Full (s : LineS) (xs : List Int) : Prop where
  ok : LineOk s
  cov : Cov s.came xs xs.length
  many : s.many = some (xs.length : Int)
  pos : 0 < xs.length
def LineS.far (s : LineS) (t : Int) : Int := (t - s.beg) * s.pn
theorem far_parts (s : LineS) (t : Int) : s.low t * s.pb + s.rest t = s.far t := by
  unfold LineS.low LineS.rest LineS.far
  have := Int.mul_ediv_add_emod ((t - s.beg) * s.pn) s.pb
  rw [Int.mul_comm] at this
  exact this
theorem Full.begun {s : LineS} {xs : List Int} (h : Full s xs) (t : Int) : s.begun t = decide (0 ≤ s.far t) := by
  unfold LineS.begun LineS.far
  have := h.ok.pn0
  by_cases e : s.beg ≤ t
  · rw [decide_eq_true e, decide_eq_true (Int.mul_nonneg (by omega) (by omega))]
  · rw [decide_eq_false e, decide_eq_false]
    intro z
    have : (t - s.beg) * s.pn < 0 := Int.mul_neg_of_neg_of_pos (by omega) (by omega)
    omega
theorem Full.last {s : LineS} {xs : List Int} (h : Full s xs) (t : Int) : (s.last t < (xs.length : Int)) ↔ s.far t ≤ ((xs.length : Int) - 1) * s.pb := by
  obtain ⟨o1, o2, o3, o4, _, _⟩ := h.ok
  have hf := far_parts s t
  have r0 : 0 ≤ s.rest t := Int.emod_nonneg _ (by omega)
  have r1 : s.rest t < s.pb := Int.emod_lt_of_pos _ (by omega)
  unfold LineS.last
  by_cases e : s.rest t = 0
  · rw [if_pos e, ← hf, e, Int.add_zero]
    constructor
    · intro z
      exact Int.mul_le_mul_of_nonneg_right (by omega) (by omega)
    · intro z
      have : s.low t ≤ (xs.length : Int) - 1 := Int.le_of_mul_le_mul_right z (by omega)
      omega
  · rw [if_neg e, ← hf]
    constructor
    · intro z
      have h1 : (s.low t + 1) * s.pb ≤ ((xs.length : Int) - 1) * s.pb := Int.mul_le_mul_of_nonneg_right (by omega) (by omega)
      rw [Int.add_mul, Int.one_mul] at h1
      omega
    · intro z
      have h1 : s.low t * s.pb < ((xs.length : Int) - 1) * s.pb := by omega
      have : s.low t < (xs.length : Int) - 1 := Int.lt_of_mul_lt_mul_right h1 (by omega)
      omega
theorem Full.low0 {s : LineS} {xs : List Int} (h : Full s xs) {t : Int} (hf : 0 ≤ s.far t) : 0 ≤ s.low t := Int.ediv_nonneg hf (by have := h.ok.pb0; omega)
theorem Full.over {s : LineS} {xs : List Int} (h : Full s xs) (t : Int) : s.over t = !decide (s.far t ≤ ((xs.length : Int) - 1) * s.pb) := by
  unfold LineS.over
  rw [h.many]
  show decide ((xs.length : Int) ≤ s.last t) = _
  have := h.last t
  by_cases e : s.last t < (xs.length : Int)
  · rw [decide_eq_false (by omega), decide_eq_true (this.mp e)]
    rfl
  · rw [decide_eq_true (by omega), decide_eq_false (fun z => e (this.mpr z))]
    rfl
theorem Full.has {s : LineS} {xs : List Int} (h : Full s xs) {i : Int} (h0 : 0 ≤ i) (h1 : i < (xs.length : Int)) : s.has i = true ∧ s.at i = xs[i.toNat]'(by omega) := by
  have := h.cov i
  rw [if_pos ⟨h0, h1⟩, List.getElem?_eq_getElem (by omega)] at this
  unfold LineS.has LineS.at
  rw [this]
  exact ⟨rfl, rfl⟩
theorem Full.lacks {s : LineS} {xs : List Int} (h : Full s xs) (t : Int) : s.lacks t = false := by
  unfold LineS.lacks
  rw [h.begun, h.over]
  by_cases e0 : 0 ≤ s.far t
  · by_cases e1 : s.far t ≤ ((xs.length : Int) - 1) * s.pb
    · rw [decide_eq_true e0, decide_eq_true e1]
      simp only [Bool.true_and, Bool.not_true, Bool.not_false]
      rw [List.any_eq_false]
      intro i hi
      have hl := (h.last t).mpr e1
      have hlow := h.low0 e0
      have : 0 ≤ i ∧ i < (xs.length : Int) := by
        unfold LineS.want at hi
        unfold LineS.last at hl
        by_cases e : s.rest t = 0
        · rw [if_pos e] at hi hl
          rw [List.mem_singleton.mp hi]
          exact ⟨hlow, hl⟩
        · rw [if_neg e] at hi hl
          rcases List.mem_cons.mp hi with q | q
          · rw [q]; exact ⟨hlow, by omega⟩
          · rw [List.mem_singleton.mp q]; exact ⟨by omega, hl⟩
      rw [(h.has this.1 this.2).1]
      decide
    · rw [decide_eq_false e1]
      simp
  · rw [decide_eq_false e0]
    simp
theorem Full.ready {s : LineS} {xs : List Int} (h : Full s xs) (t : Int) : s.ready t = decide (0 ≤ s.far t ∧ s.far t ≤ ((xs.length : Int) - 1) * s.pb) := by
  unfold LineS.ready
  rw [h.lacks, h.begun, h.over]
  by_cases e0 : 0 ≤ s.far t <;> by_cases e1 : s.far t ≤ ((xs.length : Int) - 1) * s.pb <;> simp [e0, e1]
/-- the number at a place, nothing behind the last one -/
def nth (xs : List Int) (i : Int) : Int := (xs ++ [0])[i.toNat]?.getD 0
theorem Full.value {s : LineS} {xs : List Int} (h : Full s xs) {t : Int} (hr : s.ready t = true) (ld : Int) : s.value t * mkRat ld 64 = mkRat ((nth xs (s.low t) * s.pb + (nth xs (s.low t + 1) - nth xs (s.low t)) * s.rest t) * ld) (64 * s.pb).toNat := by
  rw [h.ready] at hr
  obtain ⟨e0, e1⟩ := of_decide_eq_true hr
  have hl := (h.last t).mpr e1
  have hlow := h.low0 e0
  obtain ⟨o1, o2, o3, o4, _, _⟩ := h.ok
  have hn : ∀ i : Int, 0 ≤ i → i < (xs.length : Int) → s.at i = nth xs i := by
    intro i i0 i1
    rw [(h.has i0 i1).2]
    unfold nth
    rw [List.getElem?_append_left (by omega), List.getElem?_eq_getElem (by omega)]
    rfl
  unfold LineS.value
  unfold LineS.last at hl
  have e64 : (64 * s.pb).toNat = s.pb.toNat * 64 := by omega
  by_cases e : s.rest t = 0
  · rw [if_pos e] at hl ⊢
    rw [hn _ hlow hl, e, Int.mul_zero, Int.add_zero, Rat.mkRat_mul_mkRat, e64, Nat.one_mul]
    have hpb : s.pb = ((s.pb.toNat : Nat) : Int) := by omega
    have := Rat.mkRat_mul_left (n := nth xs (s.low t) * ld) (d := 64) (a := s.pb.toNat) (by omega)
    rw [← this, ← hpb]
    congr 1
    rw [Int.mul_comm s.pb, Int.mul_assoc, Int.mul_comm ld, ← Int.mul_assoc]
  · rw [if_neg e] at hl ⊢
    rw [hn _ hlow (by omega), hn _ (by omega) hl, Rat.mkRat_mul_mkRat, e64]
    congr 2
    rw [Int.mul_sub, Int.sub_mul]
    omega
end Mx
namespace Mx
open PySem L2
/-! ### soft 1: a voice is on or hushed -/
structure V1 (xs : List Int) (ld : Int) (v : VoiceS) : Prop where
  full : Full v.line xs
  loud : v.loud = ⟨mkRat ld 64, 0, 0⟩
  heard : v.heard = true
  word : v.word = wH ∧ v.part = 0 ∨ v.word = wO
  l0 : 0 ≤ ld
  l1 : ld ≤ 64
  part : Rb 31 v.part
  pS : v.word = wO → Rb 26 v.part
theorem mk0 (n : Nat) : mkRat 0 n = 0 := Rat.zero_mkRat n
theorem mk11 : mkRat 1 1 = 1 := by rfl
theorem V1.ok {xs : List Int} {ld : Int} {v : VoiceS} (h : V1 xs ld v) : VoiceOk 7 1 v := by
  obtain ⟨n1, n2, n3, n4, n5, n6⟩ := wne
  obtain ⟨hf, hl, hh, hw, l0, l1, hp, hS⟩ := h
  refine ⟨hf.ok, ⟨1, ld, 0, ⟨by decide, ?_, ?_, l0, by omega, by omega, by omega, ?_, ?_, ?_⟩, by decide⟩, ?_, fun z => ?_, fun z => ?_, hp, fun z => ?_, fun z => ?_⟩
  · rw [hl]
  · rw [hl, mk0]
  · rw [hl]; exact Int.le_refl 0
  · rw [hl]; show 0 ≤ ld + 0 * 0; omega
  · rw [hl]; show ld + 0 * 0 ≤ _; omega
  · rcases hw with ⟨z, _⟩ | z
    · exact .inl z
    · exact .inr (.inr (.inl z))
  · rcases hw with ⟨e, _⟩ | e
    · exact absurd (e.symm.trans z) n1
    · exact absurd (z.symm.trans e) n4
  · rcases hw with ⟨e, _⟩ | e
    · exact absurd (e.symm.trans z) n3
    · exact absurd (e.symm.trans z) n6
  · rcases hw with ⟨e, _⟩ | e
    · rcases z with z | z
      · exact absurd (e.symm.trans z) n1
      · exact absurd (e.symm.trans z) n2
    · exact hS e
  · rcases hw with ⟨e, _⟩ | e
    · exact absurd (e.symm.trans z) n3
    · exact absurd (e.symm.trans z) n6
theorem V1.give {xs : List Int} {ld : Int} {v : VoiceS} (h : V1 xs ld v) (t : Int) : V1 xs ld (v.give t 1) ∧ (v.give t 1).part = if v.line.ready t = true then v.line.value t * mkRat ld 64 else 0 := by
  obtain ⟨n1, n2, n3, n4, n5, n6⟩ := wne
  have hg := h.ok.give (Int.le_refl 1) (by decide) t
  obtain ⟨hf, hl, hh, hw, l0, l1, hp, hS⟩ := h
  have hon : v.loud.on = v.loud := by
    unfold LoudS.on
    rw [hl]
    rfl
  have hlev : v.loud.level = mkRat ld 64 := by rw [hl]
  have nF : ¬ v.word = wF := by
    rcases hw with ⟨e, _⟩ | e
    · exact fun z => n3 (e.symm.trans z)
    · exact fun z => n6 (e.symm.trans z)
  have hm : v.may t = v.line.ready t := by unfold VoiceS.may; rw [hh]; rfl
  have key : ∀ u : VoiceS, v.give t 1 = u → u.line = v.line → u.loud = v.loud → u.heard = true → (u.word = wH ∧ u.part = 0 ∨ u.word = wO) → V1 xs ld (v.give t 1) := by
    intro u e e1 e2 e3 e4
    rw [e] at hg ⊢
    exact ⟨by rw [e1]; exact hf, by rw [e2]; exact hl, e3, e4, l0, l1, hg.part, fun z => hg.partS (.inr z)⟩
  by_cases hr : v.line.ready t = true
  · rw [if_pos hr]
    have e : v.give t 1 = VoiceS.sound { v with loud := v.loud.on } (v.line.value t * v.loud.on.level) 1 := by
      unfold VoiceS.give
      rw [if_neg nF, if_pos (by rw [hm]; exact hr)]
    rcases hw with ⟨eH, _⟩ | eO
    · have e2 : VoiceS.sound { v with loud := v.loud.on } (v.line.value t * v.loud.on.level) 1 = { v with loud := v.loud.on, word := wO, steps := 1, part := v.line.value t * v.loud.on.level * mkRat 1 1 } := by
        unfold VoiceS.sound
        rw [if_neg (show ¬ v.word = wO from fun z => n2 (eH.symm.trans z)), if_pos (show v.word = wH from eH)]
        rfl
      rw [e2, mk11, hon] at e
      refine ⟨key _ e rfl rfl hh (.inr rfl), ?_⟩
      rw [e, ← hlev]
      show v.line.value t * v.loud.level * 1 = _
      grind
    · have e2 : VoiceS.sound { v with loud := v.loud.on } (v.line.value t * v.loud.on.level) 1 = { v with loud := v.loud.on, part := v.line.value t * v.loud.on.level } := by
        unfold VoiceS.sound
        rw [if_pos (show v.word = wO from eO)]
      rw [e2, hon] at e
      refine ⟨key _ e rfl rfl hh (.inr eO), ?_⟩
      rw [e, ← hlev]
  · rw [if_neg hr]
    rcases hw with ⟨eH, p0⟩ | eO
    · have e : v.give t 1 = { v with loud := v.loud.on } := by
        unfold VoiceS.give
        rw [if_neg nF, if_neg (by rw [hm]; exact hr), if_pos eH]
      rw [hon] at e
      refine ⟨key _ e rfl rfl hh (.inl ⟨eH, p0⟩), ?_⟩
      rw [e]
      exact p0
    · have e : v.give t 1 = VoiceS.beginFall { v with loud := v.loud.on } 1 := by
        unfold VoiceS.give
        rw [if_neg nF, if_neg (by rw [hm]; exact hr), if_neg (fun z => n2 (z.symm.trans eO))]
      have e2 : VoiceS.beginFall { v with loud := v.loud.on } 1 = { v with loud := v.loud.on, word := wH, steps := 1, height := v.part, part := v.part * mkRat 0 1 } := rfl
      rw [e2, hon, mk0] at e
      have pz : v.part * 0 = 0 := by grind
      refine ⟨key _ e rfl rfl hh (.inl ⟨rfl, pz⟩), ?_⟩
      rw [e]
      exact pz
end Mx

namespace Mx
open PySem L2
theorem LoudOk.new {n : Int} (l0 : 0 ≤ n) (l1 : n ≤ 64) : LoudOk 7 ⟨mkRat n 64, 0, 0⟩ :=
  ⟨1, n, 0, ⟨by decide, rfl, by show (0 : Rat) = _; rw [mk0], l0, by omega, by omega, by omega, by show (0 : Int) ≤ 0; decide, by show 0 ≤ n + 0 * 0; omega, by show n + 0 * 0 ≤ _; omega⟩, by decide⟩
theorem Rb0 (n : Nat) : Rb (n + 1) 0 := ⟨by show (0 : Int).natAbs < _; exact Nat.two_pow_pos _, by show 1 < 2 ^ (n + 1); rw [Nat.pow_succ]; have := Nat.two_pow_pos n; omega⟩
theorem new_ok {v : VoiceS} {soft n : Int} (hl : LineOk v.line) (l0 : 0 ≤ n) (l1 : n ≤ 64) (e1 : v.loud = ⟨mkRat n 64, 0, 0⟩) (e2 : v.word = wH) (e3 : v.part = 0) : VoiceOk 7 soft v := by
  obtain ⟨n1, n2, n3, n4, n5, n6⟩ := wne
  refine ⟨hl, by rw [e1]; exact LoudOk.new l0 l1, .inl e2, fun z => ?_, fun z => ?_, by rw [e3]; exact Rb0 30, fun z => ?_, fun z => ?_⟩
  · exact absurd (e2.symm.trans z) n1
  · exact absurd (e2.symm.trans z) n3
  · rcases z with z | z
    · exact absurd (e2.symm.trans z) n1
    · exact absurd (e2.symm.trans z) n2
  · exact absurd (e2.symm.trans z) n3
/-- a comprehension of drawn numbers: what a turn of it does -/
theorem nums_new {K : PySem.W.Frag} {H : Hp} {r sc nu : Addr} {ns : List Int} {lo hi : Int} (hR : RowAt K H r sc ns) (hnu : H nu = none) : ∃ xs : List Int, xs.length = 0 ∧ (∀ n ∈ xs, lo ≤ n ∧ n ≤ hi) ∧ RowAt K (upd H nu (.lst [])) r sc ns ∧ Stp [r] H (upd H nu (.lst [])) ∧ (upd H nu (.lst [])) nu = some (.lst (xs.map V.int)) :=
  ⟨[], rfl, by simp, row_new hR hnu, (Stp.new hnu).sub (by simp), upd_same⟩
theorem nums_next {K : PySem.W.Frag} {H7 H' H9 : Hp} {r sc nu : Addr} {ns xs : List Int} {lo hi v : Int} {j : Nat} (hR7 : RowAt K H7 r sc ns) (hnu : H7 nu = none) (hxl : xs.length = j) (hxn : ∀ n ∈ xs, lo ≤ n ∧ n ≤ hi) (sj : Stp [r] H7 H') (hl : H' nu = some (.lst (xs.map V.int))) (v0 : lo ≤ v) (v1 : v ≤ hi) (hR9 : RowAt K H9 r sc ns) (s9 : Stp [r] H' H9) :
    H9 nu = some (.lst (xs.map V.int)) ∧ ∃ ys : List Int, ys.length = j + 1 ∧ (∀ n ∈ ys, lo ≤ n ∧ n ≤ hi) ∧ RowAt K (upd H9 nu (.lst (xs.map V.int ++ [.int v]))) r sc ns ∧ Stp [r] H7 (upd H9 nu (.lst (xs.map V.int ++ [.int v]))) ∧ (upd H9 nu (.lst (xs.map V.int ++ [.int v]))) nu = some (.lst (ys.map V.int)) := by
  have hnr : nu ≠ r := row_ne hR7 hnu
  obtain ⟨pos, mix, p0, m0, m1, hrr, hscr, hscn⟩ := id hR7
  have h9 := s9.keep _ _ hl (by simpa using hnr)
  have sP := Stp.put (o := .lst (xs.map V.int ++ [.int v])) h9 (fun xs z => nomatch z)
  have sA : Stp [r] H7 (upd H9 nu (.lst (xs.map V.int ++ [.int v]))) := ((sj.trans s9).trans sP).subN fun b hb => by
    simp only [List.mem_append, List.mem_singleton] at hb
    rcases hb with (z | z) | z
    · exact .inl (by simp [z])
    · exact .inl (by simp [z])
    · exact .inr (z ▸ hnu)
  refine ⟨h9, xs ++ [v], ?_, ?_, ?_, sA, ?_⟩
  · rw [List.length_append]
    simp [hxl]
  · intro n hn
    rcases List.mem_append.mp hn with q | q
    · exact hxn n q
    · rw [List.mem_singleton.mp q]
      exact ⟨v0, v1⟩
  · obtain ⟨pos', mix', p0', m0', m1', hr9, _, _⟩ := hR9
    exact ⟨pos', mix', p0', m0', m1', sP.keep _ _ hr9 (by simpa using hnr.symm), seq_or hscr sA hscn, hscn⟩
  · rw [upd_same, List.map_append]
    rfl
end Mx

namespace Mx
open PySem L2
/-! ### a voice with numbers up to a place, the end told or not -/
/-- pace, begin and numbers as they are; how many there are: not told, or as many -/
structure Num (s : LineS) (xs : List Int) : Prop where
  ok : LineOk s
  cov : Cov s.came xs xs.length
  pos : 0 < xs.length
  many : s.many = none ∨ s.many = some (xs.length : Int)
def LineS.full (s : LineS) (xs : List Int) : LineS := { s with many := some (xs.length : Int) }
theorem Num.full {s : LineS} {xs : List Int} (h : Num s xs) : Full (s.full xs) xs := ⟨⟨h.ok.pn0, h.ok.pn1, h.ok.pb0, h.ok.pb1, h.ok.cm, h.ok.len⟩, h.cov, rfl, h.pos⟩
/-- within the numbers the end makes nothing else -/
theorem Num.in_ {s : LineS} {xs : List Int} (h : Num s xs) {t : Int} (ht : s.far t ≤ ((xs.length : Int) - 1) * s.pb) : s.over t = false ∧ s.lacks t = false ∧ s.ready t = s.begun t := by
  have hf := h.full
  have h1 := hf.over t
  have h2 := hf.lacks t
  have e1 : (s.full xs).far t = s.far t := rfl
  have e2 : (s.full xs).pb = s.pb := rfl
  rw [e1, e2, decide_eq_true ht] at h1
  have ho : s.over t = false := by
    rcases h.many with e | e
    · unfold LineS.over
      rw [e]
    · have : s.full xs = s := by
        unfold LineS.full
        rw [← e]
      rw [this] at h1
      exact h1
  have hl : s.lacks t = false := by
    unfold LineS.lacks at h2 ⊢
    rw [h1] at h2
    rw [ho]
    exact h2
  refine ⟨ho, hl, ?_⟩
  unfold LineS.ready
  rw [ho, hl]
  simp
/-- behind them, where the end is told -/
theorem Num.out {s : LineS} {xs : List Int} (h : Num s xs) (hm : s.many = some (xs.length : Int)) {t : Int} (ht : ¬ s.far t ≤ ((xs.length : Int) - 1) * s.pb) : s.lacks t = false ∧ s.ready t = false := by
  have hf := h.full
  have e : s.full xs = s := by
    unfold LineS.full
    rw [← hm]
  rw [e] at hf
  refine ⟨hf.lacks t, ?_⟩
  rw [hf.ready]
  exact decide_eq_false fun z => ht z.2
/-! ### how a voice goes while it may sound, and falls behind -/
theorem give_ready {v : VoiceS} {t soft : Int} (hh : v.heard = true) (hr : v.line.ready t = true) (hw : v.word ≠ wF) : (v.give t soft).word ≠ wF ∧ (v.give t soft).word ≠ wH := by
  obtain ⟨n1, n2, n3, n4, n5, n6⟩ := wne
  have hm : v.may t = true := by unfold VoiceS.may; rw [hh, hr]; rfl
  unfold VoiceS.give
  rw [if_neg hw, if_pos hm]
  unfold VoiceS.sound
  by_cases eO : v.word = wO
  · rw [if_pos eO]
    exact ⟨hw, fun z => n2 (z.symm.trans eO)⟩
  · rw [if_neg eO]
    unfold VoiceS.rise
    by_cases eH : v.word = wH
    · rw [if_pos eH]
      show (if _ then wO else wR) ≠ wF ∧ (if _ then wO else wR) ≠ wH
      split
      · exact ⟨n6, n2.symm⟩
      · exact ⟨n5, n1.symm⟩
    · rw [if_neg eH]
      show (if _ then wO else v.word) ≠ wF ∧ (if _ then wO else v.word) ≠ wH
      split
      · exact ⟨n6, n2.symm⟩
      · exact ⟨hw, eH⟩
theorem give_idle {v : VoiceS} {t soft : Int} (hr : v.line.ready t = false) (hw : v.word = wH) : v.give t soft = { v with loud := v.loud.on } := by
  obtain ⟨n1, n2, n3, n4, n5, n6⟩ := wne
  have hm : v.may t = false := by unfold VoiceS.may; rw [hr]; simp
  unfold VoiceS.give
  rw [if_neg (fun z => n3 (hw.symm.trans z)), if_neg (by rw [hm]; decide), if_pos hw]
/-- j beats behind the last one that it may sound at, from the part p -/
structure Fallen (soft : Int) (p : Rat) (j : Int) (v : VoiceS) : Prop where
  a : j = 0 → v.part = p ∧ v.word ≠ wF ∧ v.word ≠ wH
  b : 0 < j → j < soft → v.word = wF ∧ v.steps = j ∧ v.height = p
  c : soft ≤ j → 0 < j → v.word = wH ∧ v.part = 0
theorem Fallen.next {soft : Int} {p : Rat} {j : Int} {v : VoiceS} (h : Fallen soft p j v) (h1 : 1 ≤ soft) (j0 : 0 ≤ j) {t : Int} (hr : v.line.ready t = false) : Fallen soft p (j + 1) (v.give t soft) ∧ (v.give t soft).part = p * mkRat (max 0 (soft - 1 - j)) soft.toNat := by
  obtain ⟨n1, n2, n3, n4, n5, n6⟩ := wne
  have hm : v.may t = false := by unfold VoiceS.may; rw [hr]; simp
  have fall : ∀ u : VoiceS, u.word = wF → u.steps = j → u.height = p → j < soft → Fallen soft p (j + 1) (u.fall soft) ∧ (u.fall soft).part = p * mkRat (max 0 (soft - 1 - j)) soft.toNat := by
    intro u e1 e2 e3 hj
    have ep : (u.fall soft).part = p * mkRat (max 0 (soft - 1 - j)) soft.toNat := by
      show u.height * mkRat (soft - (u.steps + 1)) soft.toNat = _
      rw [e3, e2, show soft - (j + 1) = max 0 (soft - 1 - j) by omega]
    refine ⟨⟨fun z => by omega, fun _ z => ?_, fun z _ => ?_⟩, ep⟩
    · have : ¬ u.steps + 1 = soft := by omega
      refine ⟨?_, by show u.steps + 1 = j + 1; omega, e3⟩
      show (if u.steps + 1 = soft then wH else u.word) = wF
      rw [if_neg this, e1]
    · have : u.steps + 1 = soft := by omega
      refine ⟨?_, ?_⟩
      · show (if u.steps + 1 = soft then wH else u.word) = wH
        rw [if_pos this]
      · rw [ep, show max 0 (soft - 1 - j) = 0 by omega, mk0]
        grind
  by_cases e0 : j = 0
  · obtain ⟨p0, w1, w2⟩ := h.a e0
    have e : v.give t soft = VoiceS.fall { v with loud := v.loud.on, word := wF, steps := 0, height := v.part } soft := by
      unfold VoiceS.give
      rw [if_neg w1, if_neg (by rw [hm]; decide), if_neg w2]
      rfl
    rw [e]
    exact fall _ rfl e0.symm p0 (by omega)
  · by_cases hj : j < soft
    · obtain ⟨w1, s1, hh⟩ := h.b (by omega) hj
      have e : v.give t soft = VoiceS.fall { v with loud := v.loud.on } soft := by
        unfold VoiceS.give
        rw [if_pos w1]
      rw [e]
      exact fall _ w1 s1 hh hj
    · obtain ⟨w1, p0⟩ := h.c (by omega) (by omega)
      rw [give_idle hr w1]
      refine ⟨⟨fun z => by omega, fun _ z => by omega, fun _ _ => ⟨w1, p0⟩⟩, ?_⟩
      show v.part = _
      rw [p0, show max 0 (soft - 1 - j) = 0 by omega, mk0]
      grind
/-- two voices that differ in whether the end is told go alike where they may sound -/
theorem give_alike {v : VoiceS} {m : Option Int} {t soft : Int} (hr : ({ v.line with many := m } : LineS).ready t = v.line.ready t) : VoiceS.give { v with line := { v.line with many := m } } t soft = { v.give t soft with line := { v.line with many := m } } := by
  have hv : ({ v.line with many := m } : LineS).value t = v.line.value t := rfl
  have hm : VoiceS.may { v with line := { v.line with many := m } } t = v.may t := by
    unfold VoiceS.may
    show (v.heard && _) = _
    rw [hr]
  unfold VoiceS.give
  rw [hm]
  by_cases e1 : v.word = wF
  · rw [if_pos e1, if_pos e1]
    rfl
  · rw [if_neg e1, if_neg e1]
    by_cases e2 : v.may t = true
    · rw [if_pos e2, if_pos e2]
      unfold VoiceS.sound
      by_cases e3 : v.word = wO
      · rw [if_pos e3, if_pos e3]
        rfl
      · rw [if_neg e3, if_neg e3]
        by_cases e4 : v.word = wH
        · rw [if_pos e4, if_pos e4]
          rfl
        · rw [if_neg e4, if_neg e4]
          rfl
    · rw [if_neg e2, if_neg e2]
      by_cases e3 : v.word = wH
      · rw [if_pos e3, if_pos e3]
      · rw [if_neg e3, if_neg e3]
        rfl
theorem give_heard (v : VoiceS) (t soft : Int) : (v.give t soft).heard = v.heard := by
  have hs : ∀ (u : VoiceS) (x : Rat), (u.sound x soft).heard = u.heard := by
    intro u x
    unfold VoiceS.sound
    by_cases e : u.word = wO
    · rw [if_pos e]
    · rw [if_neg e]
      by_cases e2 : u.word = wH
      · rw [if_pos e2]
        rfl
      · rw [if_neg e2]
        rfl
  unfold VoiceS.give
  by_cases e : v.word = wF
  · rw [if_pos e]
    rfl
  · rw [if_neg e]
    by_cases e2 : v.may t = true
    · rw [if_pos e2]
      exact hs _ _
    · rw [if_neg e2]
      by_cases e3 : v.word = wH
      · rw [if_pos e3]
      · rw [if_neg e3]
        rfl
end Mx

namespace Mx
open PySem L2
/-! ### a beat, each voice with bits of its own -/
def sB (bv : Int → Nat) : List Int → Nat
  | [] => 0
  | n :: r => bv n + 25 + sB bv r
theorem sB_snoc (bv : Int → Nat) : ∀ (ys : List Int) (n : Int), sB bv (ys ++ [n]) = sB bv ys + (bv n + 25)
  | [], n => by simp [sB]
  | m :: r, n => by
    show bv m + 25 + sB bv (r ++ [n]) = bv m + 25 + sB bv r + (bv n + 25)
    rw [sB_snoc bv r n]
    omega
theorem sB_perm {bv : Int → Nat} {xs ys : List Int} (h : xs.Perm ys) : sB bv xs = sB bv ys := by
  induction h with
  | nil => rfl
  | cons x _ ih => show _ + sB bv _ = _ + sB bv _; rw [ih]
  | swap x y l => show _ + (_ + sB bv l) = _ + (_ + sB bv l); omega
  | trans _ _ h1 h2 => exact h1.trans h2
theorem sB_take (bv : Int → Nat) : ∀ (ys : List Int) (i : Nat), sB bv (ys.take i) ≤ sB bv ys
  | [], i => by simp [sB]
  | n :: r, 0 => by simp [sB]
  | n :: r, i + 1 => by
    show bv n + 25 + sB bv (r.take i) ≤ bv n + 25 + sB bv r
    have := sB_take bv r i
    omega
structure MixOkV (bv : Int → Nat) (s : MixS) : Prop where
  s1 : 1 ≤ s.soft
  s2 : s.soft ≤ 16
  d0 : ∀ e ∈ s.vs, 0 < bv e.1
  vo : ∀ e ∈ s.vs, VoiceOk (bv e.1) s.soft e.2.2
  nm : ∀ e ∈ s.vs, 0 ≤ e.1 ∧ e.1 ≤ 5
  six : s.vs.length ≤ 6
  bits : sB bv (s.vs.map (·.1)) < 4400
  lk : s.lacked.length + s.vs.length ≤ 100000
theorem sum_rbV {bv : Int → Nat} {s : MixS} (hO : MixOkV bv s) (hn : (s.vs.map (·.1)).Nodup) : ∀ (zs : List Int), (∀ n ∈ zs, ∃ e ∈ s.vs, e.1 = n) → Rb (1 + sB bv zs) (sumOf s zs)
  | [], _ => ⟨by show (0 : Int).natAbs < _; exact Nat.two_pow_pos _, by show 1 < _; exact Nat.one_lt_two_pow (by omega)⟩
  | n :: r, h => by
    obtain ⟨e, he, rfl⟩ := h n List.mem_cons_self
    have h1 := sum_rbV hO hn r fun m hm => h m (List.mem_cons_of_mem _ hm)
    have h2 := ((hO.vo e he).give hO.s1 hO.s2 s.coming).part
    have h3 := h2.add h1
    show Rb _ (partOf s e.1 + sumOf s r)
    rw [partOf_mem hn he]
    refine h3.mono ?_
    show _ ≤ 1 + (bv e.1 + 25 + sB bv r)
    omega
set_option hygiene false in
local macro_rules | `(tactic| walk_at "rd") => `(tactic| try simp only [L2.start, List.map_cons, List.map_nil, List.length_cons, List.length_nil, Nat.reduceAdd, Nat.reduceSub, Nat.reduceLT, Nat.reduceLeDiff, List.replicate_succ, List.replicate_zero, List.append_nil, List.nil_append, List.cons_append, List.set_cons_zero, List.set_cons_succ, List.getElem?_cons_zero, List.getElem?_cons_succ,
  Option.some.injEq, List.cons.injEq, and_true, true_and, and_assoc, reduceCtorEq, L2.V.int.injEq, L2.V.ref.injEq, L2.V.bl.injEq, L2.V.str.injEq, L2.V.ty.injEq, L2.HO.ins.injEq, L2.HO.lst.injEq, L2.HO.tup.injEq, L2.HO.dK.injEq, exists_eq_left', exists_eq_left, exists_eq_right, exists_eq', exists_eq, exists_and_left, exists_and_right, reduceIte, Bool.false_eq_true, Bool.not_true, Bool.not_false,
  L2.tSeq, L2.tIfS, L2.tRet, L2.tRetN, L2.tNext, L2.tAsg, L2.gName, L2.tVar, L2.tC, L2.tCons, L2.tNil, L2.tCB, L2.tOp, L2.tUn, L2.tTup, L2.tLst, L2.tB, L2.tOr, L2.tAnd, L2.tNot, L2.tAndV, L2.tOrV, L2.tNotV, L2.tIf, L2.tTest, L2.tChain, L2.rI, L2.rI0, L2.rU, L2.tDrop, L2.tNever, L2.tCall, L2.tMeth, L2.tMake, L2.rGcd, L2.tFld, L2.sFld, L2.sFldAug, Mx.sFldA, Mx.sFldAugA, L2.rAdd, L2.rSub, L2.rEq, L2.rNe, L2.tDGet, L2.tDIn, L2.tDNotIn, L2.sDPut,
  Mx.isi_int_bool, Mx.isi_int_int, Mx.isi_int_tuple, Mx.isi_int_list, Mx.isi_int_str, Mx.scal_int, Mx.scal_str, Mx.scal_bl, Mx.ofString_inj, Mx.ofString_beq, Mx.lk_cons, Mx.pf_nil, Mx.pf_cons, Mx.sz1, Mx.sz2, List.lookup_nil, String.reduceEq, decide_true, decide_false, decide_eq_true_eq, Int.natAbs_natCast, L2.upd_same, L2.upd_upd, L2.cxOf, Mx.fsM, Mx.fsV, Mx.fsL, Mx.optV])
set_option hygiene false in
local macro_rules | `(tactic| walk_at "rds") => `(tactic| try simp only [L2.start, List.map_cons, List.map_nil, List.length_cons, List.length_nil, Nat.reduceAdd, Nat.reduceSub, Nat.reduceLT, Nat.reduceLeDiff, List.replicate_succ, List.replicate_zero, List.append_nil, List.nil_append, List.cons_append, List.set_cons_zero, List.set_cons_succ, List.getElem?_cons_zero, List.getElem?_cons_succ,
  Option.some.injEq, List.cons.injEq, and_true, true_and, and_assoc, reduceCtorEq, L2.V.int.injEq, L2.V.ref.injEq, L2.V.bl.injEq, L2.V.str.injEq, L2.V.ty.injEq, L2.HO.ins.injEq, L2.HO.lst.injEq, L2.HO.tup.injEq, L2.HO.dK.injEq, exists_eq_left', exists_eq_left, exists_eq_right, exists_eq', exists_eq, exists_and_left, exists_and_right, reduceIte, Bool.false_eq_true, Bool.not_true, Bool.not_false,
  L2.tSeq, L2.tIfS, L2.tRet, L2.tRetN, L2.tNext, L2.tAsg, L2.gName, L2.tVar, L2.tC, L2.tCons, L2.tNil, L2.tCB, L2.tOp, L2.tUn, L2.tTup, L2.tLst, L2.tB, L2.tOr, L2.tAnd, L2.tNot, L2.tAndV, L2.tOrV, L2.tNotV, L2.tIf, L2.tTest, L2.tChain, L2.rI, L2.rI0, L2.rU, L2.tDrop, L2.tNever, L2.tCall, L2.tMeth, L2.tMake, L2.rGcd, L2.tFld, L2.sFld, L2.sFldAug, Mx.sFldA, Mx.sFldAugA, L2.rAdd, L2.rSub, L2.rEq, L2.rNe, L2.tDGet, L2.tDIn, L2.tDNotIn, L2.sDPut,
  Mx.isi_int_bool, Mx.isi_int_int, Mx.isi_int_tuple, Mx.isi_int_list, Mx.isi_int_str, Mx.scal_int, Mx.scal_str, Mx.scal_bl, Mx.ofString_inj, Mx.ofString_beq, Mx.lk_cons, Mx.pf_nil, Mx.pf_cons, Mx.sz1, Mx.sz2, List.lookup_nil, String.reduceEq, decide_true, decide_false, decide_eq_true_eq, Int.natAbs_natCast, L2.upd_same, L2.upd_upd, L2.cxOf, Mx.fsM, Mx.fsV, Mx.fsL, Mx.optV, *])

section
variable {P : Program} {w : World} {K : PySem.W.Frag} {mg : Str → Option Value} {base : Heap} {cs : Cs} {C : Addr}
def sp_Mixer_beatV (K : PySem.W.Frag) (cs : Cs) : Sp := fun vs H Q _ => ∃ (m d k : Addr) (s : MixS) (bv : Int → Nat), vs = [.ref m] ∧ MixAt K cs H m d k s ∧ MixOkV bv s ∧
  ∀ (r : V) (ys : List Int) (H' : Hp), ys.Perm (s.vs.map (·.1)) → ys.Pairwise (· ≤ ·) → IsQ K H' r (sumOf s ys) → MixAt K cs H' m d k (s.beat ys) → Stp (s.foot m d k) H H' → Q r H'
theorem ok_Mixer_beatV {f : Addr} {fd : FuncData} (F : Fun K "beat" "Mixer.beat" s_Mixer_beat f fd) (T : TM K cs.M) (TVV : TV K cs.V) (TT : TC K mg) (B : Blt mg) (G1 : OwnM P w K mg base cs.L "lacks" 5 ["self", "beat"] (sp_Line_bool cs.L LineS.lacks))
    (G2 : OwnM P w K mg base cs.V "give" 7 ["self", "beat", "soft"] (sp_Voice_give K cs)) (G3 : OwnF P w K mg base "plus" 2 ["one", "other"] (sp_two (· + ·) K)) : FnOk P w K mg base CX0 8 f fd ["self"] (sp_Mixer_beatV K cs) := by
  refine F.ok sc_Mixer_beat (fun vs H Q E h => ?_) (fun cdv A outer s H vs Q E hr h => ?_)
  · obtain ⟨m, d, k, s, bv, rfl, _⟩ := h
    rfl
  · obtain ⟨m, d, k, s, bv, rfl, hM, hO, q⟩ := h
    obtain ⟨aN, hN, hN2⟩ := TT.nothing
    have hu := hu_of hr
    refine ⟨_, pss_cons (ps_set (i := 1) sc_Mixer_beat.nd rfl (.inl rfl) (pe_glob (v := .ref aN) (by rfl) hN rfl))
      (pss_cons (ps_for PassesOwn.never rfl (pi_list (pe_callB (call_sortedDI rfl) (by rfl) B.sorted PyProof.Rows.boot_sorted (pa_cons (pe_fld (pv 0) rfl) pa_nil))) (pg_name (i := 2) sc_Mixer_beat.nd rfl (.inl rfl))
        (pss_cons (ps_set (i := 3) sc_Mixer_beat.nd rfl (.inl rfl) (pe_dget hu (pe_fld (pv 0) rfl) (pv 2) (fun _ _ => rfl)))
        (pss_cons (ps_if (pt_val (p_meth G1 (hr.mono (by decide)) (pe_fld (pv 3) rfl) (pa_cons (pe_fld (pv 0) rfl) pa_nil)))
          (pss_one (ps_expr (pe_bm PySem.F.plainAttrs_list PySem.F.slot_list_append PySem.F.type_list_append mt_append (pe_fld (pv 0) rfl) (pa_cons (pe_tup (pa_cons (pv 2) (pa_cons (pe_fld (pv 0) rfl) pa_nil))) pa_nil)))) pss_nil)
        (pss_one (ps_set (i := 1) sc_Mixer_beat.nd rfl (.inl rfl) (p_call G3 (hr.mono (by decide)) (pa_cons (pv 1) (pa_cons (p_meth G2 hr (pv 3) (pa_cons (pe_fld (pv 0) rfl) (pa_cons (pe_fld (pv 0) rfl) pa_nil))) pa_nil))))))))
      (pss_cons (ps_fldaugA (pv 0) pe_int in_add) (pss_one (ps_ret (pv 1))))), ?_⟩
    obtain ⟨cl, a1, a2, a3, a4⟩ := T
    obtain ⟨vcl, b1, _⟩ := TVV
    obtain ⟨dx, h1⟩ := id hM.ob
    have hdv := hM.dv
    walk_at "rds"
    have hlen6 : sB bv (s.vs.map (·.1)) < 4400 := hO.bits
    have hvl : s.vs.length < 64 := Nat.lt_of_le_of_lt hO.six (by decide)
    refine ⟨_, rfl, m, cs.M, dx, _, _, rfl, h1, cl, a3, rfl, d, rfl, _, .inl hdv, s.vs.map (·.1), ?_, ?_, fun ys p hpm hpw hp0 => ⟨p, rfl, ⟨_, .inl (.inl upd_same)⟩, ?_⟩⟩
    · unfold vdict
      rw [List.map_map, List.map_map]
      rfl
    · rw [List.length_map]
      exact hvl
    have hpf : p ∉ s.foot m d k := fun z => hM.some p z hp0
    have s0 := Stp.new (o := .lst (ys.map V.int)) hp0
    have hndy : ys.Nodup := hpm.nodup_iff.mpr hM.nm
    have hsub : ∀ n ∈ ys, ∃ e ∈ s.vs, e.1 = n := fun n hn => by
      obtain ⟨e, he, q⟩ := List.mem_map.mp (hpm.mem_iff.mp hn)
      exact ⟨e, he, q⟩
    have hS : sB bv ys < 4400 := by rw [sB_perm hpm]; exact hlen6
    have hyl : ys.length = s.vs.length := by rw [hpm.length_eq, List.length_map]
    refine for_list (K := K) (a := p) (xs := ys.map V.int) (fun i σ H2 => ∃ tv v2 v3, σ = [some (.ref m), some tv, v2, v3] ∧ IsQ K H2 tv (sumOf s (ys.take i)) ∧ MixAt K cs H2 m d k (s.some' (ys.take i)) ∧ Stp (s.foot m d k) H H2 ∧ H2 p = some (.lst (ys.map V.int)))
      ⟨_, _, _, rfl, isQ0 hN2, by rw [List.take_zero, some_nil]; exact hM.st0 s0, s0.sub (by simp), upd_same⟩ (fun i σ H2 _ h => ?_) (fun i x σ H2 hi h => ?_) (fun σ H2 h => ?_)
    · obtain ⟨_, _, _, _, _, _, _, hp2⟩ := h
      exact .inl (.inl hp2)
    · obtain ⟨tv, v2, v3, rfl, htv, hM2, st2, hp2⟩ := h
      rw [List.getElem?_map] at hi
      obtain ⟨n, hn, rfl⟩ := Option.map_eq_some_iff.mp hi
      have hil : i < ys.length := (List.getElem?_eq_some_iff.mp hn).1
      have hnm : n ∈ ys := List.mem_of_getElem? hn
      obtain ⟨e, he, rfl⟩ := hsub n hnm
      have htk : ys.take (i + 1) = ys.take i ++ [e.1] := by rw [List.take_add_one, hn]; rfl
      have hni : e.1 ∉ ys.take i := by
        intro z
        have h2 := hndy.sublist (List.take_sublist (i + 1) ys)
        rw [htk, List.nodup_append] at h2
        exact h2.2.2 _ z _ (by simp) rfl
      have he2 : e ∈ (s.some' (ys.take i)).vs := by
        refine List.mem_map.mpr ⟨e, he, ?_⟩
        rw [if_neg hni]
      have hib : sB bv (ys.take (i + 1)) ≤ sB bv ys := sB_take _ _ _
      have hib1 : sB bv (ys.take (i + 1)) = sB bv (ys.take i) + (bv e.1 + 25) := by rw [htk, sB_snoc]
      obtain ⟨dx2, h12⟩ := hM2.ob
      have hd2 := hM2.dv
      have gd := DGet.k (k := (Sum.inl e.1 : Key)) hd2
      rw [vdict_get hM2.nm he2] at gd
      have hv2 := hM2.vo e he2
      obtain ⟨dy2, pv2', hv2', gv2, _, _⟩ := hv2.ob
      obtain ⟨dl2, tp2, gl2, _⟩ := hv2.line.ob
      walk_at "rds"
      refine ⟨_, gd, ?_⟩
      walk_at "rds"
      refine ⟨e.2.1.l, e.2.1.c, e.2.2.line, s.coming, rfl, hv2.line, (hO.vo e he).line, fun H3 s3 => ?_⟩
      have hM3 := hM2.st0 s3
      have hrb : Rb (1 + sB bv (ys.take i)) (sumOf s (ys.take i)) := by
        exact sum_rbV hO hM.nm (ys.take i) fun n hn => hsub n (List.mem_of_mem_take hn)
      walk_at "rd"
      cases hlk : e.2.2.line.lacks s.coming with
      | false =>
        have hlk2 : e.2.2.line.lacks s.coming = true ∧ ([] : List (Int × Int)) = [(e.1, s.coming)] ∨ e.2.2.line.lacks s.coming = false ∧ ([] : List (Int × Int)) = [] := .inr ⟨hlk, rfl⟩
        rw [if_neg (by decide)]
        have hM4 : MixAt K cs H3 m d k { s.some' (ys.take i) with lacked := (s.some' (ys.take i)).lacked ++ [] } := by
          rw [List.append_nil]
          exact hM3
        have st4 := st2.trans s3
        have ht4 := htv.st s3
        have hp4 := s3.keep _ _ hp2 (by simp)
        have hv4 := hM4.vo e he2
        obtain ⟨dx4, g4⟩ := hM4.ob
        obtain ⟨dy4, pv4, hv4', gv4, _, _⟩ := hv4.ob
        walk_at "rds"
        refine ⟨e.2.1, e.2.2, s.coming, s.soft, bv e.1, rfl, hv4, hO.vo e he, hO.s1, hO.s2, hO.d0 e he, by omega, fun r H5 hr5 hv5 s5 => ?_⟩
        obtain ⟨ar, rfl, tr⟩ := hr5
        obtain ⟨atv, rfl, ttv⟩ := ht4
        have hM5 := hM4.turn he2 s5 (fun x hx => hx) hv5
        refine ⟨atv, ar, sumOf s (ys.take i), (e.2.2.give s.coming s.soft).part, 1 + sB bv (ys.take i), bv e.1 + 24, rfl, ttv.st s5, tr, hrb, ((hO.vo e he).give hO.s1 hO.s2 s.coming).part, by omega, by omega, by omega, fun r6 H6 hp6 s6 l6 => ?_⟩
        have hfe : ∀ x ∈ e.2.1.foot, x ∈ s.foot m d k := fun x hx => by
          unfold MixS.foot
          exact List.mem_cons_of_mem _ (List.mem_cons_of_mem _ (List.mem_cons_of_mem _ (List.mem_flatMap.mpr ⟨e, he, hx⟩)))
        refine ⟨?_, ?_, ((st4.trans s5).trans s6).sub ?_, ?_⟩
        · rw [sumOf_snoc, partOf_mem hM.nm he]
          exact isQ_of l6
        · have := hM5.st0 s6
          rw [some_step hM.nm he hni rfl hlk2] at this
          exact this
        · intro x hx
          simp only [List.append_nil, List.mem_append] at hx
          exact hx.elim id (hfe x)
        · exact s6.keep _ _ (s5.keep _ _ hp4 fun z => hpf (hfe _ z)) (by simp)
      | true =>
        have hlk2 : e.2.2.line.lacks s.coming = true ∧ [(e.1, s.coming)] = [(e.1, s.coming)] ∨ e.2.2.line.lacks s.coming = false ∧ [(e.1, s.coming)] = [] := .inl ⟨hlk, rfl⟩
        rw [if_pos rfl]
        obtain ⟨ls, hl3, hpr3⟩ := hM3.lk
        obtain ⟨dx3, g3⟩ := hM3.ob
        refine ⟨_, rfl, m, cs.M, dx3, _, _, rfl, g3, cl, a4, rfl, .inl ⟨rfl, _, .inl (.inl hl3)⟩, ?_⟩
        refine ⟨_, rfl, _, rfl, m, cs.M, dx3, _, _, rfl, g3, cl, a2, rfl, by show 2 ≤ sizeLine; decide, fun T hT => ?_⟩
        have sT := Stp.new (o := .tup [.int e.1, .int (s.some' (ys.take i)).coming]) hT
        have hl4 := sT.keep _ _ hl3 (by simp)
        have hM4 : MixAt K cs (upd (upd H3 T (.tup [.int e.1, .int (s.some' (ys.take i)).coming])) k (.lst (ls ++ [.ref T]))) m d k { s.some' (ys.take i) with lacked := (s.some' (ys.take i)).lacked ++ [(e.1, s.coming)] } := (hM3.st0 sT).lack hl4 (T := T) (n := e.1) (b := (s.some' (ys.take i)).coming) upd_same
        have sL := Stp.put (o := .lst (ls ++ [.ref T])) hl4 (fun xs z => nomatch z)
        have hll := hM3.low hl3
        refine ⟨k, ls, .ref T, rfl, rfl, hl4, ?_, ?_⟩
        · rw [hll]
          have h1 : (s.some' (ys.take i)).lacked.length ≤ s.lacked.length + i := by
            show (s.lacked ++ ((ys.take i).filter (lackN s.vs s.coming)).map fun n => (n, s.coming)).length ≤ _
            rw [List.length_append, List.length_map]
            have := List.length_filter_le (lackN s.vs s.coming) (ys.take i)
            rw [List.length_take] at this
            omega
          have := hO.lk
          exact Nat.lt_of_le_of_lt (show _ ≤ 100000 by omega) (by decide)
        have st4 := ((st2.trans s3).trans sT).trans sL
        have ht4 := ((htv.st s3).st sT).st sL
        have hkp : p ≠ k := fun z => hpf (by rw [z]; simp [MixS.foot])
        have hp4 := sL.keep _ _ (sT.keep _ _ (s3.keep _ _ hp2 (by simp)) (by simp)) (by simpa using hkp)
        have hkf : k ∈ s.foot m d k := by simp [MixS.foot]
        have st4' := st4.sub (G := s.foot m d k) (by
          intro x hx
          simp only [List.append_nil, List.mem_append, List.mem_singleton] at hx
          exact hx.elim id fun z => z ▸ hkf)
        have st4 := st4'
        generalize upd (upd H3 T (.tup [.int e.1, .int (s.some' (ys.take i)).coming])) k (.lst (ls ++ [.ref T])) = H4 at *
        have hv4 := hM4.vo e he2
        obtain ⟨dx4, g4⟩ := hM4.ob
        obtain ⟨dy4, pv4, hv4', gv4, _, _⟩ := hv4.ob
        walk_at "rds"
        refine ⟨e.2.1, e.2.2, s.coming, s.soft, bv e.1, rfl, hv4, hO.vo e he, hO.s1, hO.s2, hO.d0 e he, by omega, fun r H5 hr5 hv5 s5 => ?_⟩
        obtain ⟨ar, rfl, tr⟩ := hr5
        obtain ⟨atv, rfl, ttv⟩ := ht4
        have hM5 := hM4.turn he2 s5 (fun x hx => hx) hv5
        refine ⟨atv, ar, sumOf s (ys.take i), (e.2.2.give s.coming s.soft).part, 1 + sB bv (ys.take i), bv e.1 + 24, rfl, ttv.st s5, tr, hrb, ((hO.vo e he).give hO.s1 hO.s2 s.coming).part, by omega, by omega, by omega, fun r6 H6 hp6 s6 l6 => ?_⟩
        have hfe : ∀ x ∈ e.2.1.foot, x ∈ s.foot m d k := fun x hx => by
          unfold MixS.foot
          exact List.mem_cons_of_mem _ (List.mem_cons_of_mem _ (List.mem_cons_of_mem _ (List.mem_flatMap.mpr ⟨e, he, hx⟩)))
        refine ⟨?_, ?_, ((st4.trans s5).trans s6).sub ?_, ?_⟩
        · rw [sumOf_snoc, partOf_mem hM.nm he]
          exact isQ_of l6
        · have := hM5.st0 s6
          rw [some_step hM.nm he hni rfl hlk2] at this
          exact this
        · intro x hx
          simp only [List.append_nil, List.mem_append] at hx
          exact hx.elim id (hfe x)
        · exact s6.keep _ _ (s5.keep _ _ hp4 fun z => hpf (hfe _ z)) (by simp)
    · obtain ⟨tv, v2, v3, rfl, htv, hM2, st2, hp2⟩ := h
      rw [List.length_map, List.take_length] at htv hM2
      obtain ⟨dx2, h12⟩ := hM2.ob
      have hne := hM2.ne
      walk_at "rds"
      intro H3 g3 s3
      walk_at "rd"
      refine q tv ys H3 hpm hpw (htv.st s3) ?_ ((st2.trans s3).sub ?_)
      · obtain ⟨_, u2, ⟨ls, u3, u4⟩, u5, u6, u7, u8⟩ := hM2
        have ev : (s.some' ys).vs = (s.beat ys).vs := List.map_congr_left fun e he => by
          rw [if_pos (hpm.mem_iff.mpr (List.mem_map.mpr ⟨e, he, rfl⟩))]
        rw [ev] at u2 u5 u6 u7 u8
        exact ⟨⟨dx2, g3⟩, s3.keep _ _ u2 (by simpa using hne.1.symm), ⟨ls, s3.keep _ _ u3 (by simpa using hne.2.1.symm), pairs_st s3 u4⟩, fun e he => (u5 e he).st s3 fun x hx z => (u6 e he).1 (List.mem_singleton.mp z ▸ hx), u6, u7, u8⟩
      · intro x hx
        simp only [List.mem_append, List.mem_singleton] at hx
        exact hx.elim id fun z => by rw [z]; simp [MixS.foot]
end
end Mx

namespace Mx
open PySem L2
/-! ### fractions of greater divisors -/
theorem divP_any {t g : Int} (hg : 0 < g) (ht : t.natAbs < 2 ^ 12990) : CDivP t g := by
  by_cases h : g.natAbs.log2 < 9000
  · exact ⟨hg, PyProof.noPylong_of_log2 h⟩
  · refine divp_ok hg ?_
    have h1 := PyProof.Rows.intBits_le ht
    have h2 : Builtin.Int.intBits g = g.natAbs.log2 + 1 := by
      unfold Builtin.Int.intBits
      rw [if_neg (show ¬ (g == 0) = true by simpa using (show g ≠ 0 by omega))]
    omega
theorem op_fdivP {X : Cx} : OpR X (binaryOp .FloorDiv) (rI CDivP fun i j => .int (i / j)) := opI fun i j _ _ _ _ _ hc q => by
  have h1 : (0 : Int) < j := hc.1
  exact PyProof.Rows.floordiv_int (by omega) (by rw [Int.fdiv_eq_ediv_of_nonneg i (by omega)]; exact q) (.inl hc.2)
set_option hygiene false in
local macro_rules | `(tactic| walk_at "rd") => `(tactic| try simp only [L2.start, List.map_cons, List.map_nil, List.length_cons, List.length_nil, Nat.reduceAdd, Nat.reduceSub, Nat.reduceLT, Nat.reduceLeDiff, List.replicate_succ, List.replicate_zero, List.append_nil, List.nil_append, List.cons_append, List.set_cons_zero, List.set_cons_succ, List.getElem?_cons_zero, List.getElem?_cons_succ,
  Option.some.injEq, List.cons.injEq, and_true, true_and, and_assoc, reduceCtorEq, L2.V.int.injEq, L2.V.ref.injEq, L2.V.bl.injEq, L2.V.str.injEq, L2.V.ty.injEq, L2.HO.ins.injEq, L2.HO.lst.injEq, L2.HO.tup.injEq, L2.HO.dK.injEq, exists_eq_left', exists_eq_left, exists_eq_right, exists_eq', exists_eq, exists_and_left, exists_and_right, reduceIte, Bool.false_eq_true, Bool.not_true, Bool.not_false,
  L2.tSeq, L2.tIfS, L2.tRet, L2.tRetN, L2.tNext, L2.tAsg, L2.gName, L2.tVar, L2.tC, L2.tCons, L2.tNil, L2.tCB, L2.tOp, L2.tUn, L2.tTup, L2.tLst, L2.tB, L2.tOr, L2.tAnd, L2.tNot, L2.tAndV, L2.tOrV, L2.tNotV, L2.tIf, L2.tTest, L2.tChain, L2.rI, L2.rI0, L2.rU, L2.tDrop, L2.tNever, L2.tCall, L2.tMeth, L2.tMake, L2.rGcd, L2.tFld, L2.sFld, L2.sFldAug, Mx.sFldA, Mx.sFldAugA, L2.rAdd, L2.rSub, L2.rEq, L2.rNe, L2.tDGet, L2.tDIn, L2.tDNotIn, L2.sDPut,
  Mx.isi_int_bool, Mx.isi_int_int, Mx.isi_int_tuple, Mx.isi_int_list, Mx.isi_int_str, Mx.scal_int, Mx.scal_str, Mx.scal_bl, Mx.ofString_inj, Mx.ofString_beq, Mx.lk_cons, Mx.pf_nil, Mx.pf_cons, Mx.sz1, Mx.sz2, List.lookup_nil, String.reduceEq, decide_true, decide_false, decide_eq_true_eq, Int.natAbs_natCast, L2.upd_same, L2.upd_upd, L2.cxOf, Mx.fsM, Mx.fsV, Mx.fsL, Mx.fsD, Mx.optV])
set_option hygiene false in
local macro_rules | `(tactic| walk_at "rds") => `(tactic| try simp only [L2.start, List.map_cons, List.map_nil, List.length_cons, List.length_nil, Nat.reduceAdd, Nat.reduceSub, Nat.reduceLT, Nat.reduceLeDiff, List.replicate_succ, List.replicate_zero, List.append_nil, List.nil_append, List.cons_append, List.set_cons_zero, List.set_cons_succ, List.getElem?_cons_zero, List.getElem?_cons_succ,
  Option.some.injEq, List.cons.injEq, and_true, true_and, and_assoc, reduceCtorEq, L2.V.int.injEq, L2.V.ref.injEq, L2.V.bl.injEq, L2.V.str.injEq, L2.V.ty.injEq, L2.HO.ins.injEq, L2.HO.lst.injEq, L2.HO.tup.injEq, L2.HO.dK.injEq, exists_eq_left', exists_eq_left, exists_eq_right, exists_eq', exists_eq, exists_and_left, exists_and_right, reduceIte, Bool.false_eq_true, Bool.not_true, Bool.not_false,
  L2.tSeq, L2.tIfS, L2.tRet, L2.tRetN, L2.tNext, L2.tAsg, L2.gName, L2.tVar, L2.tC, L2.tCons, L2.tNil, L2.tCB, L2.tOp, L2.tUn, L2.tTup, L2.tLst, L2.tB, L2.tOr, L2.tAnd, L2.tNot, L2.tAndV, L2.tOrV, L2.tNotV, L2.tIf, L2.tTest, L2.tChain, L2.rI, L2.rI0, L2.rU, L2.tDrop, L2.tNever, L2.tCall, L2.tMeth, L2.tMake, L2.rGcd, L2.tFld, L2.sFld, L2.sFldAug, Mx.sFldA, Mx.sFldAugA, L2.rAdd, L2.rSub, L2.rEq, L2.rNe, L2.tDGet, L2.tDIn, L2.tDNotIn, L2.sDPut,
  Mx.isi_int_bool, Mx.isi_int_int, Mx.isi_int_tuple, Mx.isi_int_list, Mx.isi_int_str, Mx.scal_int, Mx.scal_str, Mx.scal_bl, Mx.ofString_inj, Mx.ofString_beq, Mx.lk_cons, Mx.pf_nil, Mx.pf_cons, Mx.sz1, Mx.sz2, List.lookup_nil, String.reduceEq, decide_true, decide_false, decide_eq_true_eq, Int.natAbs_natCast, L2.upd_same, L2.upd_upd, L2.cxOf, Mx.fsM, Mx.fsV, Mx.fsL, Mx.fsD, Mx.optV, *])

section
variable {P : Program} {w : World} {K : PySem.W.Frag} {mg : Str → Option Value} {base : Heap} {cs : Cs} {C : Addr}
def sp_ratioX : Sp := fun vs H Q _ => ∃ (t b : Int), vs = [.int t, .int b] ∧ 0 < b ∧ b.natAbs < 2 ^ 12990 ∧ t.natAbs < 2 ^ 12990 ∧
  ∀ p H', H p = none → Stp [] H H' → H' p = some (.tup (frac (mkRat t b.toNat))) → Q (.ref p) H'
theorem ok_ratioX {f : Addr} {fd : FuncData} (F : Fun K "ratio" "ratio" s_ratio f fd) (B : Blt mg) : FnOk P w K mg base CX0 1 f fd ["top", "bottom"] sp_ratioX := by
  refine F.ok sc_ratio (fun vs H Q E h => ?_) (fun cdv A outer s H vs Q E hr h => ?_)
  · obtain ⟨t, b, rfl, _⟩ := h
    rfl
  · obtain ⟨t, b', rfl, h0', hb, htt, k⟩ := h
    obtain ⟨b, rfl⟩ : ∃ b : Nat, b' = b := ⟨b'.toNat, by omega⟩
    have h0 : 0 < b := by omega
    rw [Int.natAbs_natCast] at hb
    rw [Int.toNat_natCast] at k
    refine ⟨_, pss_cons (ps_set (i := 2) sc_ratio.nd rfl (Or.inl rfl) (pe_callBfun cr_gcd (by rfl) B.gcd (pa_cons (pv 0) (pa_cons (pv 1) pa_nil))))
      (pss_one (ps_ret (pe_tup (pa_cons (pe_op op_fdivP (pv 0) (pv 2)) (pa_cons (pe_op op_fdivP (pv 1) (pv 2)) pa_nil))))), ?_⟩
    have hgp : 0 < Nat.gcd t.natAbs b := Nat.gcd_pos_of_pos_right _ h0
    have hgz : (0 : Int) < ((Nat.gcd t.natAbs b : Nat) : Int) := by omega
    have hgd : CDivP t ((Nat.gcd t.natAbs b : Nat) : Int) := divP_any hgz htt
    have hgd2 : CDivP (b : Int) ((Nat.gcd t.natAbs b : Nat) : Int) := divP_any hgz (by rw [Int.natAbs_natCast]; exact hb)
    walk_at "rd"
    refine ⟨hgd, hgd2, fun p hp => k p _ hp (Stp.new hp) ?_⟩
    unfold frac
    rw [mk_num t b h0, mk_den t b h0]
    exact upd_same
def sp_twoX (g : Rat → Rat → Rat) (K : PySem.W.Frag) : Sp := fun vs H Q _ => ∃ (a b : Addr) (q r : Rat) (n m : Nat), vs = [.ref a, .ref b] ∧ TupAt K H a (frac q) ∧ TupAt K H b (frac r) ∧ Rb n q ∧ Rb m r ∧ n + m < 12980 ∧ 0 < n ∧ 0 < m ∧
  ∀ p H', H p = none → Stp [] H H' → H' p = some (.tup (frac (g q r))) → Q (.ref p) H'
theorem ok_plusX {f : Addr} {fd : FuncData} (F : Fun K "plus" "plus" s_plus f fd) (G : OwnF P w K mg base "ratio" 1 ["top", "bottom"] sp_ratioX) : FnOk P w K mg base CX0 2 f fd ["one", "other"] (sp_twoX (· + ·) K) := by
  refine F.ok sc_plus (fun vs H Q E h => ?_) (fun cdv A outer s H vs Q E hr h => ?_)
  · obtain ⟨a, b, q, r, n, m, rfl, _⟩ := h
    rfl
  · obtain ⟨a, b, q, r, n, m, rfl, ha, hb, hn, hm, hl, hn0, hm0, k⟩ := h
    refine ⟨_, pss_one (ps_ret (p_call G hr (pa_cons (pe_op op_add (pe_op op_mulW (pe_ix ix_tup (pv 0) pe_int (fun _ _ => rfl)) (pe_ix ix_tup (pv 1) pe_int (fun _ _ => rfl))) (pe_op op_mulW (pe_ix ix_tup (pv 1) pe_int (fun _ _ => rfl)) (pe_ix ix_tup (pv 0) pe_int (fun _ _ => rfl))))
      (pa_cons (pe_op op_mulW (pe_ix ix_tup (pv 0) pe_int (fun _ _ => rfl)) (pe_ix ix_tup (pv 1) pe_int (fun _ _ => rfl))) pa_nil)))), ?_⟩
    walk_at "rd"
    have e1 : 2 ^ n * 2 ^ m = 2 ^ (n + m) := (Nat.pow_add 2 n m).symm
    refine ixT_0 ha (ixT_1 hb ⟨_, rfl, _, rfl, wide_mul hn.num (by simpa using hm.den) hn0 hm0 (by omega), ixT_0 hb (ixT_1 ha ⟨_, rfl, _, rfl, wide_mul hm.num (by simpa using hn.den) hm0 hn0 (by omega), ixT_1 ha (ixT_1 hb ⟨_, rfl, _, rfl, wide_mul (by simpa using hn.den) (by simpa using hm.den) hn0 hm0 (by omega), ?_⟩)⟩)⟩)
    have hd : (q.den : Int) * (r.den : Int) = ((q.den * r.den : Nat) : Int) := by simp
    refine ⟨_, _, rfl, ?_, ?_, ?_, fun p H' hp hs hl' => k p H' hp hs ?_⟩
    · rw [hd]
      have := Nat.mul_pos q.den_pos r.den_pos
      omega
    · rw [hd, Int.natAbs_natCast]
      exact Nat.lt_of_lt_of_le (Nat.mul_lt_mul'' hn.den hm.den) (by rw [e1]; exact Nat.pow_le_pow_right (by decide) (by omega))
    · have a1 := wide_lt hn.num (show ((r.den : Nat) : Int).natAbs < 2 ^ m by simpa using hm.den)
      have a2 := wide_lt hm.num (show ((q.den : Nat) : Int).natAbs < 2 ^ n by simpa using hn.den)
      rw [Nat.add_comm m n] at a2
      have a3 : 2 ^ (n + m) + 2 ^ (n + m) ≤ 2 ^ 12990 := by
        have : 2 ^ (n + m + 1) ≤ 2 ^ 12990 := Nat.pow_le_pow_right (by decide) (by omega)
        rw [Nat.pow_succ] at this
        omega
      have a4 := Int.natAbs_add_le (q.num * (r.den : Int)) (r.num * (q.den : Int))
      generalize 2 ^ 12990 = zz at *
      omega
    · rw [hd, Int.toNat_natCast, add_mk] at hl'
      exact hl'
def sp_Loudness_lead_onX (K : PySem.W.Frag) (C : Addr) : Sp := fun vs H Q _ => ∃ (q : Addr) (s : LoudS) (d : Nat), vs = [.ref q] ∧ LoudAt K C H q s ∧ LoudOk d s ∧ 0 < d ∧ 2 * d < 12970 ∧ ∀ H', LoudAt K C H' q s.on → Stp [q] H H' → Q .non H'
theorem ok_Loudness_lead_onX {f : Addr} {fd : FuncData} (F : Fun K "lead_on" "Loudness.lead_on" s_Loudness_lead_on f fd) (T : TD K C) (GP : OwnF P w K mg base "plus" 2 ["one", "other"] (sp_twoX (· + ·) K)) : FnOk P w K mg base CX0 3 f fd ["self"] (sp_Loudness_lead_onX K C) := by
  refine F.ok sc_Loudness_lead_on (fun vs H Q E h => ?_) (fun cdv A outer s H vs Q E hr h => ?_)
  · obtain ⟨q, s, d, rfl, _⟩ := h
    rfl
  · obtain ⟨q, s, d, rfl, hq, hO, hd0, hd, k⟩ := h
    obtain ⟨cl, a1, a2, a3⟩ := T
    obtain ⟨dx, lv, st, h1, h2, h3⟩ := id hq
    refine ⟨_, pss_one (ps_if (pt_cmpR op_gt (pe_fld (pv 0) rfl) pe_int (nomark _)) (pss_cons (ps_fldA (pv 0) (p_call GP hr (pa_cons (pe_fld (pv 0) rfl) (pa_cons (pe_fld (pv 0) rfl) pa_nil))) rfl) (pss_one (ps_fldaugA (pv 0) pe_int in_sub))) pss_nil), ?_⟩
    obtain ⟨a, rfl, h2'⟩ := h2
    obtain ⟨b, rfl, h3'⟩ := h3
    obtain ⟨D, x, y, hI, hD⟩ := hO
    obtain ⟨r1, r2⟩ := hI.rb hD
    unfold LoudS.on at k
    walk_at "rds"
    by_cases hl : 0 < s.left
    · rw [if_pos hl] at k ⊢
      refine ⟨a, b, s.level, s.stride, d, d, rfl, h2', h3', r1, r2, by omega, hd0, hd0, fun p H1 hp s1 l1 => ?_⟩
      have g1 := s1.keep _ _ h1 (by simp)
      walk_at "rds"
      intro H2 g2 s2
      walk_at "rds"
      intro H3 g3 s3
      have s23 := s2.trans s3
      exact k _ ⟨dx, _, _, g3, (isQ_of l1).st s23, ⟨b, rfl, (h3'.st s1).st s23⟩⟩ ((s1.trans s23).sub (by simp))
    · rw [if_neg hl] at k ⊢
      exact k H hq (Stp.refl.sub (by simp))
def sp_Voice_giveX (K : PySem.W.Frag) (cs : Cs) : Sp := fun vs H Q _ => ∃ (A : VA) (v : VoiceS) (t soft : Int) (d : Nat), vs = [.ref A.a, .int t, .int soft] ∧ VoiceAt K cs H A v ∧ VoiceOk d soft v ∧ 1 ≤ soft ∧ soft ≤ 16 ∧ 0 < d ∧ 2 * d < 12900 ∧
  ∀ r H', IsQ K H' r (v.give t soft).part → VoiceAt K cs H' A (v.give t soft) → Stp A.foot H H' → Q r H'
theorem ok_Voice_giveX {f : Addr} {fd : FuncData} (F : Fun K "give" "Voice.give" s_Voice_give f fd) (T : TV K cs.V) (TDD : TD K cs.D) (TT : TC K mg)
    (G1 : OwnM P w K mg base cs.D "lead_on" 3 ["self"] (sp_Loudness_lead_onX K cs.D)) (G2 : OwnM P w K mg base cs.L "ready" 6 ["self", "beat"] (sp_Line_bool cs.L LineS.ready)) (G3 : OwnM P w K mg base cs.V "fall" 3 ["self", "soft"] (sp_Voice_fall K cs.V))
    (G4 : OwnM P w K mg base cs.L "value" 2 ["self", "beat"] (sp_Line_value cs.L)) (G5 : OwnM P w K mg base cs.V "sound" 4 ["self", "whole", "soft"] (sp_Voice_sound K cs.V)) (G6 : OwnM P w K mg base cs.V "begin_fall" 4 ["self", "soft"] (sp_Voice_begin_fall K cs.V))
    (GT : OwnF P w K mg base "times" 2 ["one", "other"] (sp_two (· * ·) K)) : FnOk P w K mg base CX0 7 f fd ["self", "beat", "soft"] (sp_Voice_giveX K cs) := by
  refine F.ok sc_Voice_give (fun vs H Q E h => ?_) (fun cdv A outer s H vs Q E hr h => ?_)
  · obtain ⟨A, v, t, soft, d, rfl, _⟩ := h
    rfl
  · obtain ⟨A, v, t, soft, d, rfl, hV, hO, hs1, hs2, hd0, hd, k⟩ := h
    obtain ⟨tH, hH⟩ := TT.hushed
    obtain ⟨tF, hF⟩ := TT.falling
    refine ⟨_, pss_cons (ps_expr (p_meth0 G1 (hr.mono (by decide)) (pe_fld (pv 0) rfl)))
      (pss_cons (ps_set (i := 3) sc_Voice_give.nd rfl (.inl rfl) (pe_and (pe_fld (pv 0) rfl) (pe_one (p_meth G2 hr (pe_fld (pv 0) rfl) (pa_cons (pv 1) pa_nil)))))
      (pss_cons (ps_if (pt_cmpR op_eq (pe_fld (pv 0) rfl) (pe_glob (v := .str "falling") (by rfl) hF ⟨_, rfl⟩) (nomark _)) (pss_one (ps_expr (p_meth G3 (hr.mono (by decide)) (pv 0) (pa_cons (pv 2) pa_nil))))
        (pss_one (ps_if (pt_val (pv 3)) (pss_one (ps_expr (p_meth G5 (hr.mono (by decide)) (pv 0) (pa_cons (p_call GT (hr.mono (by decide)) (pa_cons (p_meth G4 (hr.mono (by decide)) (pe_fld (pv 0) rfl) (pa_cons (pv 1) pa_nil)) (pa_cons (pe_fld (pe_fld (pv 0) rfl) rfl) pa_nil))) (pa_cons (pv 2) pa_nil)))))
          (pss_one (ps_if (pt_cmpR op_ne (pe_fld (pv 0) rfl) (pe_glob (v := .str "hushed") (by rfl) hH ⟨_, rfl⟩) (nomark _)) (pss_one (ps_expr (p_meth G6 (hr.mono (by decide)) (pv 0) (pa_cons (pv 2) pa_nil)))) pss_nil)))))
      (pss_one (ps_ret (pe_fld (pv 0) rfl))))), ?_⟩
    obtain ⟨dcl, da1, da2, da3⟩ := TDD
    obtain ⟨cl, a1, a2, a3, a4, a5, a6, a7⟩ := T
    obtain ⟨hVo, hVl, hVd, hnd⟩ := hV
    obtain ⟨dx, pv', hv', h1, h2, h3⟩ := id hVo
    obtain ⟨dq, lv, st, q1, q2, q3⟩ := id hVd
    walk_at "rds"
    refine ⟨A.q, v.loud, d, rfl, hVd, hO.loud, hd0, by omega, fun H1 hD1 s1 => ?_⟩
    have nal : A.a ≠ A.l ∧ A.a ≠ A.c ∧ A.a ≠ A.q ∧ A.l ≠ A.c ∧ A.l ≠ A.q ∧ A.c ≠ A.q := by
      simp only [VA.foot, List.nodup_cons, List.mem_cons, List.not_mem_nil, or_false, not_or, List.nodup_nil, and_true, not_false_eq_true] at hnd
      exact ⟨hnd.1.1, hnd.1.2.1, hnd.1.2.2, hnd.2.1.1, hnd.2.1.2, hnd.2.2⟩
    obtain ⟨nal1, nac, naq, nlc, nlq, ncq⟩ := nal
    have hL1 := hVl.st s1 (by simpa using nlq) (by simpa using ncq)
    have h1a := s1.keep _ _ h1 (by simpa using naq)
    obtain ⟨dl, tpl, hl1, _⟩ := id hL1.ob
    walk_at "rds"
    have main : ∀ (H2 : Hp), Stp [] H1 H2 → (∀ r H', IsQ K H' r (v.give t soft).part → VObj K cs.V H' A.a A.l A.q (v.give t soft) → Stp [A.a] H2 H' → Q r H') := by
      intro H2 s2 r H' hq hv s3
      refine k r H' hq ⟨hv, ?_, ?_, hnd⟩ (((s1.trans s2).trans s3).sub (by simp [VA.foot]))
      · have e : (v.give t soft).line = v.line := give_line v t soft
        rw [e]
        exact (hL1.st0 s2).st s3 (by simpa using nal1.symm) (by simpa using nac.symm)
      · have e : (v.give t soft).loud = v.loud.on := give_loud v t soft
        rw [e]
        exact (hD1.st s2 (by simp)).st s3 (by simpa using naq.symm)
    have fin : ∀ (H2 H3 : Hp) (u : VoiceS), Stp [] H1 H2 → v.give t soft = u → VObj K cs.V H3 A.a A.l A.q u → Stp [A.a] H2 H3 → tFld K (tVar 0) "part" [some (.ref A.a), some (.int t), some (.int soft), some (.bl (v.may t))] H3 Q := by
      intro H2 H3 u s2 eu hv s3
      obtain ⟨dy, pv2, hv2, g1, g2, g3⟩ := id hv
      refine ⟨_, rfl, A.a, cs.V, dy, _, pv2, rfl, g1, cl, a6, ?_, main H2 s2 _ _ (by rw [eu]; exact g2) (by rw [eu]; exact hv) s3⟩
      walk_at "rd"
    have hVo1 : VObj K cs.V H1 A.a A.l A.q { v with loud := v.loud.on } := by
      obtain ⟨dy, pv2, hv2, g1, g2, g3⟩ := hVo.st s1 (by simpa using naq)
      exact ⟨dy, pv2, hv2, g1, g2, g3⟩
    cases eh : v.heard with
    | false =>
      have em : v.may t = false := by unfold VoiceS.may; rw [eh]; rfl
      walk_at "rds"
      have s2 : Stp [] H1 H1 := Stp.refl
      have hVo2 := hVo1
      by_cases eF : v.word = wF
      · have eu : v.give t soft = VoiceS.fall { v with loud := v.loud.on } soft := by
          unfold VoiceS.give
          rw [if_pos eF]
        rw [if_pos (show v.word = Str.ofString "falling" from eF)]
        refine ⟨A.a, A.l, A.q, { v with loud := v.loud.on }, soft, d + 19, rfl, hVo2, hs1, hs2, (hO.stF eF).1, (hO.stF eF).2, hO.height eF, by omega, by omega, fun H3 hv s3 => ?_⟩
        obtain ⟨dy, pv2, hv2, g1, g2, g3⟩ := id hv
        walk_at "rds"
        exact main H1 s2 _ _ (by rw [eu]; exact g2) (by rw [eu]; exact hv) s3
      · rw [if_neg (show ¬ v.word = Str.ofString "falling" from eF)]
        by_cases eH : v.word = wH
        · have eu : v.give t soft = { v with loud := v.loud.on } := by
            unfold VoiceS.give
            rw [if_neg eF, if_neg (by rw [em]; decide), if_pos eH]
          rw [decide_eq_true (show v.word = Str.ofString "hushed" from eH)]
          walk_at "rd"
          obtain ⟨dy, pv2, hv2, g1, g2, g3⟩ := id hVo2
          exact main H1 s2 _ _ (by rw [eu]; exact (h2.st s1).st s2) (by rw [eu]; exact hVo2) (Stp.refl.sub (by simp))
        · have eu : v.give t soft = VoiceS.beginFall { v with loud := v.loud.on } soft := by
            unfold VoiceS.give
            rw [if_neg eF, if_neg (by rw [em]; decide), if_neg eH]
          have eS : v.word = wR ∨ v.word = wO := by
            rcases hO.word with z | z | z | z
            · exact absurd z eH
            · exact .inl z
            · exact .inr z
            · exact absurd z eF
          rw [decide_eq_false (show ¬ v.word = Str.ofString "hushed" from eH)]
          walk_at "rd"
          refine ⟨A.a, A.l, A.q, { v with loud := v.loud.on }, soft, d + 19, rfl, hVo2, hs1, hs2, hO.partS eS, by omega, by omega, fun H3 hv s3 => ?_⟩
          obtain ⟨dy, pv2, hv2, g1, g2, g3⟩ := id hv
          walk_at "rds"
          exact main H1 s2 _ _ (by rw [eu]; exact g2) (by rw [eu]; exact hv) s3
    | true =>
      walk_at "rds"
      refine ⟨A.l, A.c, v.line, t, rfl, hL1, hO.line, fun H2 s2 => ?_⟩
      have em : v.may t = v.line.ready t := by unfold VoiceS.may; rw [eh]; rfl
      have hVo2 := hVo1.st s2 (by simp)
      have h2a := s2.keep _ _ h1a (by simp)
      have h2l := s2.keep _ _ hl1 (by simp)
      cases er : v.line.ready t with
      | false =>
        rw [er] at em
        walk_at "rds"
        by_cases eF : v.word = wF
        · have eu : v.give t soft = VoiceS.fall { v with loud := v.loud.on } soft := by
            unfold VoiceS.give
            rw [if_pos eF]
          rw [if_pos (show v.word = Str.ofString "falling" from eF)]
          refine ⟨A.a, A.l, A.q, { v with loud := v.loud.on }, soft, d + 19, rfl, hVo2, hs1, hs2, (hO.stF eF).1, (hO.stF eF).2, hO.height eF, by omega, by omega, fun H3 hv s3 => ?_⟩
          obtain ⟨dy, pv2, hv2, g1, g2, g3⟩ := id hv
          walk_at "rds"
          exact main H2 s2 _ _ (by rw [eu]; exact g2) (by rw [eu]; exact hv) s3
        · rw [if_neg (show ¬ v.word = Str.ofString "falling" from eF)]
          by_cases eH : v.word = wH
          · have eu : v.give t soft = { v with loud := v.loud.on } := by
              unfold VoiceS.give
              rw [if_neg eF, if_neg (by rw [em]; decide), if_pos eH]
            rw [decide_eq_true (show v.word = Str.ofString "hushed" from eH)]
            walk_at "rd"
            obtain ⟨dy, pv2, hv2, g1, g2, g3⟩ := id hVo2
            exact main H2 s2 _ _ (by rw [eu]; exact (h2.st s1).st s2) (by rw [eu]; exact hVo2) (Stp.refl.sub (by simp))
          · have eu : v.give t soft = VoiceS.beginFall { v with loud := v.loud.on } soft := by
              unfold VoiceS.give
              rw [if_neg eF, if_neg (by rw [em]; decide), if_neg eH]
            have eS : v.word = wR ∨ v.word = wO := by
              rcases hO.word with z | z | z | z
              · exact absurd z eH
              · exact .inl z
              · exact .inr z
              · exact absurd z eF
            rw [decide_eq_false (show ¬ v.word = Str.ofString "hushed" from eH)]
            walk_at "rd"
            refine ⟨A.a, A.l, A.q, { v with loud := v.loud.on }, soft, d + 19, rfl, hVo2, hs1, hs2, hO.partS eS, by omega, by omega, fun H3 hv s3 => ?_⟩
            obtain ⟨dy, pv2, hv2, g1, g2, g3⟩ := id hv
            walk_at "rds"
            exact main H2 s2 _ _ (by rw [eu]; exact g2) (by rw [eu]; exact hv) s3
      | true =>
        rw [er] at em
        walk_at "rds"
        by_cases eF : v.word = wF
        · have eu : v.give t soft = VoiceS.fall { v with loud := v.loud.on } soft := by
            unfold VoiceS.give
            rw [if_pos eF]
          rw [if_pos (show v.word = Str.ofString "falling" from eF)]
          refine ⟨A.a, A.l, A.q, { v with loud := v.loud.on }, soft, d + 19, rfl, hVo2, hs1, hs2, (hO.stF eF).1, (hO.stF eF).2, hO.height eF, by omega, by omega, fun H3 hv s3 => ?_⟩
          obtain ⟨dy, pv2, hv2, g1, g2, g3⟩ := id hv
          walk_at "rds"
          exact main H2 s2 _ _ (by rw [eu]; exact g2) (by rw [eu]; exact hv) s3
        · rw [if_neg (show ¬ v.word = Str.ofString "falling" from eF)]
          have eu : v.give t soft = VoiceS.sound { v with loud := v.loud.on } (v.line.value t * v.loud.on.level) soft := by
            unfold VoiceS.give
            rw [if_neg eF, if_pos (by rw [em])]
          refine ⟨A.l, A.c, v.line, t, rfl, hL1.st0 s2, hO.line, er, fun p Ha hp sa la => ?_⟩
          obtain ⟨dqa, lva, sta, qa1, qa2, qa3⟩ := (hD1.st s2 (by simp)).st sa (by simp)
          have hla := sa.keep _ _ (s2.keep _ _ h1a (by simp)) (by simp)
          obtain ⟨al, rfl, qa2'⟩ := qa2
          obtain ⟨DD, xx, yy, hII, hDD⟩ := hO.loud.on
          have hlev := (hII.rb hDD).1
          have hx : Rb (d + 14) (v.line.value t * v.loud.on.level) := ((value_rb hO.line er).mul hlev).mono (by omega)
          walk_at "rds"
          refine ⟨p, al, _, _, 14, d, rfl, .inl la, qa2', value_rb hO.line er, hlev, by omega, by decide, hd0, fun pw Hb hpw sb lb => ?_⟩
          have eS : v.word = wH ∨ v.word = wR ∨ v.word = wO := by
            rcases hO.word with z | z | z | z
            · exact .inl z
            · exact .inr (.inl z)
            · exact .inr (.inr z)
            · exact absurd z eF
          have hlb := sb.keep _ _ hla (by simp)
          walk_at "rds"
          refine ⟨A.a, A.l, A.q, { v with loud := v.loud.on }, _, _, soft, d + 14, rfl, (hVo2.st sa (by simp)).st sb (by simp), isQ_of lb, hs1, hs2, hO.stR, eS, hx, by omega, by omega, fun H3 hv s3' => ?_⟩
          have s3 := ((sa.trans sb).trans s3').sub (G := [A.a]) (by simp)
          obtain ⟨dy, pv2, hv2, g1, g2, g3⟩ := id hv
          walk_at "rds"
          exact main H2 s2 _ _ (by rw [eu]; exact g2) (by rw [eu]; exact hv) s3
structure MixOkX (bv : Int → Nat) (s : MixS) : Prop where
  s1 : 1 ≤ s.soft
  s2 : s.soft ≤ 16
  d0 : ∀ e ∈ s.vs, 0 < bv e.1
  vo : ∀ e ∈ s.vs, VoiceOk (bv e.1) s.soft e.2.2
  nm : ∀ e ∈ s.vs, 0 ≤ e.1 ∧ e.1 ≤ 5
  six : s.vs.length ≤ 6
  bits : sB bv (s.vs.map (·.1)) < 6400
  lk : s.lacked.length + s.vs.length ≤ 100000
theorem sum_rbX {bv : Int → Nat} {s : MixS} (hO : MixOkX bv s) (hn : (s.vs.map (·.1)).Nodup) : ∀ (zs : List Int), (∀ n ∈ zs, ∃ e ∈ s.vs, e.1 = n) → Rb (1 + sB bv zs) (sumOf s zs)
  | [], _ => ⟨by show (0 : Int).natAbs < _; exact Nat.two_pow_pos _, by show 1 < _; exact Nat.one_lt_two_pow (by omega)⟩
  | n :: r, h => by
    obtain ⟨e, he, rfl⟩ := h n List.mem_cons_self
    have h1 := sum_rbX hO hn r fun m hm => h m (List.mem_cons_of_mem _ hm)
    have h2 := ((hO.vo e he).give hO.s1 hO.s2 s.coming).part
    have h3 := h2.add h1
    show Rb _ (partOf s e.1 + sumOf s r)
    rw [partOf_mem hn he]
    refine h3.mono ?_
    show _ ≤ 1 + (bv e.1 + 25 + sB bv r)
    omega
def sp_Mixer_beatX (K : PySem.W.Frag) (cs : Cs) : Sp := fun vs H Q _ => ∃ (m d k : Addr) (s : MixS) (bv : Int → Nat), vs = [.ref m] ∧ MixAt K cs H m d k s ∧ MixOkX bv s ∧
  ∀ (r : V) (ys : List Int) (H' : Hp), ys.Perm (s.vs.map (·.1)) → ys.Pairwise (· ≤ ·) → IsQ K H' r (sumOf s ys) → MixAt K cs H' m d k (s.beat ys) → Stp (s.foot m d k) H H' → Q r H'
theorem ok_Mixer_beatX {f : Addr} {fd : FuncData} (F : Fun K "beat" "Mixer.beat" s_Mixer_beat f fd) (T : TM K cs.M) (TVV : TV K cs.V) (TT : TC K mg) (B : Blt mg) (G1 : OwnM P w K mg base cs.L "lacks" 5 ["self", "beat"] (sp_Line_bool cs.L LineS.lacks))
    (G2 : OwnM P w K mg base cs.V "give" 7 ["self", "beat", "soft"] (sp_Voice_giveX K cs)) (G3 : OwnF P w K mg base "plus" 2 ["one", "other"] (sp_two (· + ·) K)) : FnOk P w K mg base CX0 8 f fd ["self"] (sp_Mixer_beatX K cs) := by
  refine F.ok sc_Mixer_beat (fun vs H Q E h => ?_) (fun cdv A outer s H vs Q E hr h => ?_)
  · obtain ⟨m, d, k, s, bv, rfl, _⟩ := h
    rfl
  · obtain ⟨m, d, k, s, bv, rfl, hM, hO, q⟩ := h
    obtain ⟨aN, hN, hN2⟩ := TT.nothing
    have hu := hu_of hr
    refine ⟨_, pss_cons (ps_set (i := 1) sc_Mixer_beat.nd rfl (.inl rfl) (pe_glob (v := .ref aN) (by rfl) hN rfl))
      (pss_cons (ps_for PassesOwn.never rfl (pi_list (pe_callB (call_sortedDI rfl) (by rfl) B.sorted PyProof.Rows.boot_sorted (pa_cons (pe_fld (pv 0) rfl) pa_nil))) (pg_name (i := 2) sc_Mixer_beat.nd rfl (.inl rfl))
        (pss_cons (ps_set (i := 3) sc_Mixer_beat.nd rfl (.inl rfl) (pe_dget hu (pe_fld (pv 0) rfl) (pv 2) (fun _ _ => rfl)))
        (pss_cons (ps_if (pt_val (p_meth G1 (hr.mono (by decide)) (pe_fld (pv 3) rfl) (pa_cons (pe_fld (pv 0) rfl) pa_nil)))
          (pss_one (ps_expr (pe_bm PySem.F.plainAttrs_list PySem.F.slot_list_append PySem.F.type_list_append mt_append (pe_fld (pv 0) rfl) (pa_cons (pe_tup (pa_cons (pv 2) (pa_cons (pe_fld (pv 0) rfl) pa_nil))) pa_nil)))) pss_nil)
        (pss_one (ps_set (i := 1) sc_Mixer_beat.nd rfl (.inl rfl) (p_call G3 (hr.mono (by decide)) (pa_cons (pv 1) (pa_cons (p_meth G2 hr (pv 3) (pa_cons (pe_fld (pv 0) rfl) (pa_cons (pe_fld (pv 0) rfl) pa_nil))) pa_nil))))))))
      (pss_cons (ps_fldaugA (pv 0) pe_int in_add) (pss_one (ps_ret (pv 1))))), ?_⟩
    obtain ⟨cl, a1, a2, a3, a4⟩ := T
    obtain ⟨vcl, b1, _⟩ := TVV
    obtain ⟨dx, h1⟩ := id hM.ob
    have hdv := hM.dv
    walk_at "rds"
    have hlen6 : sB bv (s.vs.map (·.1)) < 6400 := hO.bits
    have hvl : s.vs.length < 64 := Nat.lt_of_le_of_lt hO.six (by decide)
    refine ⟨_, rfl, m, cs.M, dx, _, _, rfl, h1, cl, a3, rfl, d, rfl, _, .inl hdv, s.vs.map (·.1), ?_, ?_, fun ys p hpm hpw hp0 => ⟨p, rfl, ⟨_, .inl (.inl upd_same)⟩, ?_⟩⟩
    · unfold vdict
      rw [List.map_map, List.map_map]
      rfl
    · rw [List.length_map]
      exact hvl
    have hpf : p ∉ s.foot m d k := fun z => hM.some p z hp0
    have s0 := Stp.new (o := .lst (ys.map V.int)) hp0
    have hndy : ys.Nodup := hpm.nodup_iff.mpr hM.nm
    have hsub : ∀ n ∈ ys, ∃ e ∈ s.vs, e.1 = n := fun n hn => by
      obtain ⟨e, he, q⟩ := List.mem_map.mp (hpm.mem_iff.mp hn)
      exact ⟨e, he, q⟩
    have hS : sB bv ys < 6400 := by rw [sB_perm hpm]; exact hlen6
    have hyl : ys.length = s.vs.length := by rw [hpm.length_eq, List.length_map]
    refine for_list (K := K) (a := p) (xs := ys.map V.int) (fun i σ H2 => ∃ tv v2 v3, σ = [some (.ref m), some tv, v2, v3] ∧ IsQ K H2 tv (sumOf s (ys.take i)) ∧ MixAt K cs H2 m d k (s.some' (ys.take i)) ∧ Stp (s.foot m d k) H H2 ∧ H2 p = some (.lst (ys.map V.int)))
      ⟨_, _, _, rfl, isQ0 hN2, by rw [List.take_zero, some_nil]; exact hM.st0 s0, s0.sub (by simp), upd_same⟩ (fun i σ H2 _ h => ?_) (fun i x σ H2 hi h => ?_) (fun σ H2 h => ?_)
    · obtain ⟨_, _, _, _, _, _, _, hp2⟩ := h
      exact .inl (.inl hp2)
    · obtain ⟨tv, v2, v3, rfl, htv, hM2, st2, hp2⟩ := h
      rw [List.getElem?_map] at hi
      obtain ⟨n, hn, rfl⟩ := Option.map_eq_some_iff.mp hi
      have hil : i < ys.length := (List.getElem?_eq_some_iff.mp hn).1
      have hnm : n ∈ ys := List.mem_of_getElem? hn
      obtain ⟨e, he, rfl⟩ := hsub n hnm
      have htk : ys.take (i + 1) = ys.take i ++ [e.1] := by rw [List.take_add_one, hn]; rfl
      have hni : e.1 ∉ ys.take i := by
        intro z
        have h2 := hndy.sublist (List.take_sublist (i + 1) ys)
        rw [htk, List.nodup_append] at h2
        exact h2.2.2 _ z _ (by simp) rfl
      have he2 : e ∈ (s.some' (ys.take i)).vs := by
        refine List.mem_map.mpr ⟨e, he, ?_⟩
        rw [if_neg hni]
      have hib : sB bv (ys.take (i + 1)) ≤ sB bv ys := sB_take _ _ _
      have hib1 : sB bv (ys.take (i + 1)) = sB bv (ys.take i) + (bv e.1 + 25) := by rw [htk, sB_snoc]
      obtain ⟨dx2, h12⟩ := hM2.ob
      have hd2 := hM2.dv
      have gd := DGet.k (k := (Sum.inl e.1 : Key)) hd2
      rw [vdict_get hM2.nm he2] at gd
      have hv2 := hM2.vo e he2
      obtain ⟨dy2, pv2', hv2', gv2, _, _⟩ := hv2.ob
      obtain ⟨dl2, tp2, gl2, _⟩ := hv2.line.ob
      walk_at "rds"
      refine ⟨_, gd, ?_⟩
      walk_at "rds"
      refine ⟨e.2.1.l, e.2.1.c, e.2.2.line, s.coming, rfl, hv2.line, (hO.vo e he).line, fun H3 s3 => ?_⟩
      have hM3 := hM2.st0 s3
      have hrb : Rb (1 + sB bv (ys.take i)) (sumOf s (ys.take i)) := by
        exact sum_rbX hO hM.nm (ys.take i) fun n hn => hsub n (List.mem_of_mem_take hn)
      walk_at "rd"
      cases hlk : e.2.2.line.lacks s.coming with
      | false =>
        have hlk2 : e.2.2.line.lacks s.coming = true ∧ ([] : List (Int × Int)) = [(e.1, s.coming)] ∨ e.2.2.line.lacks s.coming = false ∧ ([] : List (Int × Int)) = [] := .inr ⟨hlk, rfl⟩
        rw [if_neg (by decide)]
        have hM4 : MixAt K cs H3 m d k { s.some' (ys.take i) with lacked := (s.some' (ys.take i)).lacked ++ [] } := by
          rw [List.append_nil]
          exact hM3
        have st4 := st2.trans s3
        have ht4 := htv.st s3
        have hp4 := s3.keep _ _ hp2 (by simp)
        have hv4 := hM4.vo e he2
        obtain ⟨dx4, g4⟩ := hM4.ob
        obtain ⟨dy4, pv4, hv4', gv4, _, _⟩ := hv4.ob
        walk_at "rds"
        refine ⟨e.2.1, e.2.2, s.coming, s.soft, bv e.1, rfl, hv4, hO.vo e he, hO.s1, hO.s2, hO.d0 e he, by omega, fun r H5 hr5 hv5 s5 => ?_⟩
        obtain ⟨ar, rfl, tr⟩ := hr5
        obtain ⟨atv, rfl, ttv⟩ := ht4
        have hM5 := hM4.turn he2 s5 (fun x hx => hx) hv5
        refine ⟨atv, ar, sumOf s (ys.take i), (e.2.2.give s.coming s.soft).part, 1 + sB bv (ys.take i), bv e.1 + 24, rfl, ttv.st s5, tr, hrb, ((hO.vo e he).give hO.s1 hO.s2 s.coming).part, by omega, by omega, by omega, fun r6 H6 hp6 s6 l6 => ?_⟩
        have hfe : ∀ x ∈ e.2.1.foot, x ∈ s.foot m d k := fun x hx => by
          unfold MixS.foot
          exact List.mem_cons_of_mem _ (List.mem_cons_of_mem _ (List.mem_cons_of_mem _ (List.mem_flatMap.mpr ⟨e, he, hx⟩)))
        refine ⟨?_, ?_, ((st4.trans s5).trans s6).sub ?_, ?_⟩
        · rw [sumOf_snoc, partOf_mem hM.nm he]
          exact isQ_of l6
        · have := hM5.st0 s6
          rw [some_step hM.nm he hni rfl hlk2] at this
          exact this
        · intro x hx
          simp only [List.append_nil, List.mem_append] at hx
          exact hx.elim id (hfe x)
        · exact s6.keep _ _ (s5.keep _ _ hp4 fun z => hpf (hfe _ z)) (by simp)
      | true =>
        have hlk2 : e.2.2.line.lacks s.coming = true ∧ [(e.1, s.coming)] = [(e.1, s.coming)] ∨ e.2.2.line.lacks s.coming = false ∧ [(e.1, s.coming)] = [] := .inl ⟨hlk, rfl⟩
        rw [if_pos rfl]
        obtain ⟨ls, hl3, hpr3⟩ := hM3.lk
        obtain ⟨dx3, g3⟩ := hM3.ob
        refine ⟨_, rfl, m, cs.M, dx3, _, _, rfl, g3, cl, a4, rfl, .inl ⟨rfl, _, .inl (.inl hl3)⟩, ?_⟩
        refine ⟨_, rfl, _, rfl, m, cs.M, dx3, _, _, rfl, g3, cl, a2, rfl, by show 2 ≤ sizeLine; decide, fun T hT => ?_⟩
        have sT := Stp.new (o := .tup [.int e.1, .int (s.some' (ys.take i)).coming]) hT
        have hl4 := sT.keep _ _ hl3 (by simp)
        have hM4 : MixAt K cs (upd (upd H3 T (.tup [.int e.1, .int (s.some' (ys.take i)).coming])) k (.lst (ls ++ [.ref T]))) m d k { s.some' (ys.take i) with lacked := (s.some' (ys.take i)).lacked ++ [(e.1, s.coming)] } := (hM3.st0 sT).lack hl4 (T := T) (n := e.1) (b := (s.some' (ys.take i)).coming) upd_same
        have sL := Stp.put (o := .lst (ls ++ [.ref T])) hl4 (fun xs z => nomatch z)
        have hll := hM3.low hl3
        refine ⟨k, ls, .ref T, rfl, rfl, hl4, ?_, ?_⟩
        · rw [hll]
          have h1 : (s.some' (ys.take i)).lacked.length ≤ s.lacked.length + i := by
            show (s.lacked ++ ((ys.take i).filter (lackN s.vs s.coming)).map fun n => (n, s.coming)).length ≤ _
            rw [List.length_append, List.length_map]
            have := List.length_filter_le (lackN s.vs s.coming) (ys.take i)
            rw [List.length_take] at this
            omega
          have := hO.lk
          exact Nat.lt_of_le_of_lt (show _ ≤ 100000 by omega) (by decide)
        have st4 := ((st2.trans s3).trans sT).trans sL
        have ht4 := ((htv.st s3).st sT).st sL
        have hkp : p ≠ k := fun z => hpf (by rw [z]; simp [MixS.foot])
        have hp4 := sL.keep _ _ (sT.keep _ _ (s3.keep _ _ hp2 (by simp)) (by simp)) (by simpa using hkp)
        have hkf : k ∈ s.foot m d k := by simp [MixS.foot]
        have st4' := st4.sub (G := s.foot m d k) (by
          intro x hx
          simp only [List.append_nil, List.mem_append, List.mem_singleton] at hx
          exact hx.elim id fun z => z ▸ hkf)
        have st4 := st4'
        generalize upd (upd H3 T (.tup [.int e.1, .int (s.some' (ys.take i)).coming])) k (.lst (ls ++ [.ref T])) = H4 at *
        have hv4 := hM4.vo e he2
        obtain ⟨dx4, g4⟩ := hM4.ob
        obtain ⟨dy4, pv4, hv4', gv4, _, _⟩ := hv4.ob
        walk_at "rds"
        refine ⟨e.2.1, e.2.2, s.coming, s.soft, bv e.1, rfl, hv4, hO.vo e he, hO.s1, hO.s2, hO.d0 e he, by omega, fun r H5 hr5 hv5 s5 => ?_⟩
        obtain ⟨ar, rfl, tr⟩ := hr5
        obtain ⟨atv, rfl, ttv⟩ := ht4
        have hM5 := hM4.turn he2 s5 (fun x hx => hx) hv5
        refine ⟨atv, ar, sumOf s (ys.take i), (e.2.2.give s.coming s.soft).part, 1 + sB bv (ys.take i), bv e.1 + 24, rfl, ttv.st s5, tr, hrb, ((hO.vo e he).give hO.s1 hO.s2 s.coming).part, by omega, by omega, by omega, fun r6 H6 hp6 s6 l6 => ?_⟩
        have hfe : ∀ x ∈ e.2.1.foot, x ∈ s.foot m d k := fun x hx => by
          unfold MixS.foot
          exact List.mem_cons_of_mem _ (List.mem_cons_of_mem _ (List.mem_cons_of_mem _ (List.mem_flatMap.mpr ⟨e, he, hx⟩)))
        refine ⟨?_, ?_, ((st4.trans s5).trans s6).sub ?_, ?_⟩
        · rw [sumOf_snoc, partOf_mem hM.nm he]
          exact isQ_of l6
        · have := hM5.st0 s6
          rw [some_step hM.nm he hni rfl hlk2] at this
          exact this
        · intro x hx
          simp only [List.append_nil, List.mem_append] at hx
          exact hx.elim id (hfe x)
        · exact s6.keep _ _ (s5.keep _ _ hp4 fun z => hpf (hfe _ z)) (by simp)
    · obtain ⟨tv, v2, v3, rfl, htv, hM2, st2, hp2⟩ := h
      rw [List.length_map, List.take_length] at htv hM2
      obtain ⟨dx2, h12⟩ := hM2.ob
      have hne := hM2.ne
      walk_at "rds"
      intro H3 g3 s3
      walk_at "rd"
      refine q tv ys H3 hpm hpw (htv.st s3) ?_ ((st2.trans s3).sub ?_)
      · obtain ⟨_, u2, ⟨ls, u3, u4⟩, u5, u6, u7, u8⟩ := hM2
        have ev : (s.some' ys).vs = (s.beat ys).vs := List.map_congr_left fun e he => by
          rw [if_pos (hpm.mem_iff.mpr (List.mem_map.mpr ⟨e, he, rfl⟩))]
        rw [ev] at u2 u5 u6 u7 u8
        exact ⟨⟨dx2, g3⟩, s3.keep _ _ u2 (by simpa using hne.1.symm), ⟨ls, s3.keep _ _ u3 (by simpa using hne.2.1.symm), pairs_st s3 u4⟩, fun e he => (u5 e he).st s3 fun x hx z => (u6 e he).1 (List.mem_singleton.mp z ▸ hx), u6, u7, u8⟩
      · intro x hx
        simp only [List.mem_append, List.mem_singleton] at hx
        exact hx.elim id fun z => by rw [z]; simp [MixS.foot]
end
end Mx

namespace Mx
open PySem L2
/-! ### no part steps by more than its whole, and 999 parts of soft -/
def rabs (x : Rat) : Rat := if 0 ≤ x then x else -x
theorem rabs_le (x : Rat) : x ≤ rabs x ∧ -x ≤ rabs x ∧ 0 ≤ rabs x := by
  unfold rabs
  split <;> grind
theorem mk_k (k : Int) (S : Nat) : mkRat k S = (k : Rat) * mkRat 1 S := by
  rw [Rat.mkRat_eq_div, Rat.mkRat_eq_div]
  have : ((1 : Int) : Rat) = 1 := rfl
  rw [this]
  grind
theorem mk_full {soft : Int} (h : 1 ≤ soft) : (soft : Rat) * mkRat 1 soft.toNat = 1 := by
  rw [← mk_k, Rat.mkRat_eq_div]
  have e : (soft : Rat) = ((soft.toNat : Nat) : Rat) := by
    have : (((soft.toNat : Nat) : Int) : Rat) = ((soft.toNat : Nat) : Rat) := Rat.intCast_natCast _
    rw [← this, show ((soft.toNat : Nat) : Int) = soft by omega]
  have n0 : ((soft.toNat : Nat) : Rat) ≠ 0 := by
    intro z
    have := Rat.natCast_eq_zero_iff.mp z
    omega
  rw [e]
  grind
theorem mk_pos (S : Nat) : 0 ≤ mkRat 1 S := by
  rw [← Rat.divInt_ofNat]
  exact Rat.divInt_nonneg (by decide) (by omega)
structure J (v : VoiceS) (soft : Int) (wo : Option Rat) : Prop where
  H : v.word = wH → v.part = 0 ∧ wo = none
  R : v.word = wR → ∃ w, wo = some w ∧ -999 ≤ w ∧ w ≤ 999 ∧ v.part = w * mkRat v.steps soft.toNat
  O : v.word = wO → ∃ w, wo = some w ∧ -999 ≤ w ∧ w ≤ 999 ∧ v.part = w
  F : v.word = wF → wo = none ∧ -999 ≤ v.height ∧ v.height ≤ 999 ∧ v.part = v.height * mkRat (soft - v.steps) soft.toNat
def lim (soft : Int) : Option Rat → Option Rat → Rat
  | some w, some w' => mkRat 999 soft.toNat + rabs (w' - w)
  | _, _ => mkRat 999 soft.toNat
theorem cast_le {a b : Int} (h : a ≤ b) : (a : Rat) ≤ (b : Rat) := by exact_mod_cast h
theorem fall_J {v : VoiceS} {soft : Int} (so : 1 ≤ soft) (hw : v.word = wF) (s0 : 0 ≤ v.steps) (s1 : v.steps < soft) (h0 : -999 ≤ v.height) (h1 : v.height ≤ 999) (p : Rat) (hp : p = v.height * mkRat (soft - v.steps) soft.toNat) : J (v.fall soft) soft none ∧ (v.fall soft).part - p ≤ mkRat 999 soft.toNat ∧ -((v.fall soft).part - p) ≤ mkRat 999 soft.toNat := by
  obtain ⟨n1, n2, n3, n4, n5, n6⟩ := wne
  have hd := mk_pos soft.toNat
  have e1 : (v.fall soft).part = v.height * mkRat (soft - (v.steps + 1)) soft.toNat := rfl
  have ew : (v.fall soft).word = if v.steps + 1 = soft then wH else v.word := rfl
  have c1 : ((soft - v.steps : Int) : Rat) = ((soft - (v.steps + 1) : Int) : Rat) + 1 := by
    have : soft - v.steps = (soft - (v.steps + 1)) + 1 := by omega
    rw [this, Rat.intCast_add]
    rfl
  refine ⟨⟨fun z => ?_, fun z => ?_, fun z => ?_, fun z => ?_⟩, ?_, ?_⟩
  · rw [ew] at z
    split at z
    · rename_i q
      rw [e1, q, Int.sub_self, mk0]
      exact ⟨by grind, rfl⟩
    · rw [hw] at z
      exact absurd z n3.symm
  · rw [ew] at z
    split at z
    · exact absurd z n1
    · rw [hw] at z
      exact absurd z n5.symm
  · rw [ew] at z
    split at z
    · exact absurd z n2
    · rw [hw] at z
      exact absurd z n6.symm
  · exact ⟨rfl, h0, h1, rfl⟩
  all_goals
    rw [e1, hp, mk_k (soft - (v.steps + 1)), mk_k (soft - v.steps), c1, mk_k 999]
    have a1 := Rat.mul_le_mul_of_nonneg_right h1 hd
    have a2 := Rat.mul_le_mul_of_nonneg_right h0 hd
    have : ((999 : Int) : Rat) = 999 := rfl
    grind
theorem rise_J {v : VoiceS} {soft : Int} (so : 1 ≤ soft) (hw : v.word = wR) (s0 : 0 ≤ v.steps) (s1 : v.steps < soft) (wh : Rat) (h0 : -999 ≤ wh) (h1 : wh ≤ 999) (p : Rat) (wo : Option Rat) (hp : (wo = none ∧ v.steps = 0 ∧ p = 0) ∨ ∃ w, wo = some w ∧ p = w * mkRat v.steps soft.toNat) : J (v.rise wh soft) soft (some wh) ∧ (v.rise wh soft).part - p ≤ lim soft wo (some wh) ∧ -((v.rise wh soft).part - p) ≤ lim soft wo (some wh) := by
  obtain ⟨n1, n2, n3, n4, n5, n6⟩ := wne
  have hd := mk_pos soft.toNat
  have hf := mk_full so
  have e1 : (v.rise wh soft).part = wh * mkRat (v.steps + 1) soft.toNat := rfl
  have ew : (v.rise wh soft).word = if v.steps + 1 = soft then wO else v.word := rfl
  have c1 : ((v.steps + 1 : Int) : Rat) = (v.steps : Rat) + 1 := by rw [Rat.intCast_add]; rfl
  have a1 := Rat.mul_le_mul_of_nonneg_right h1 hd
  have a2 := Rat.mul_le_mul_of_nonneg_right h0 hd
  have t999 : ((999 : Int) : Rat) = 999 := rfl
  refine ⟨⟨fun z => ?_, fun z => ?_, fun z => ?_, fun z => ?_⟩, ?_⟩
  · rw [ew] at z
    split at z
    · exact absurd z n2.symm
    · rw [hw] at z
      exact absurd z n1.symm
  · exact ⟨wh, rfl, h0, h1, rfl⟩
  · rw [ew] at z
    split at z
    · rename_i q
      refine ⟨wh, rfl, h0, h1, ?_⟩
      rw [e1, q, mk_k, hf]
      grind
    · rw [hw] at z
      exact absurd z n4
  · rw [ew] at z
    split at z
    · exact absurd z n6
    · rw [hw] at z
      exact absurd z n5
  · rcases hp with ⟨rfl, z, rfl⟩ | ⟨w, rfl, rfl⟩
    · show _ ≤ mkRat 999 soft.toNat ∧ _ ≤ mkRat 999 soft.toNat
      rw [e1, z, mk_k 999, t999]
      have : (0 : Int) + 1 = 1 := rfl
      rw [this]
      constructor <;> grind
    · show _ ≤ mkRat 999 soft.toNat + rabs (wh - w) ∧ _ ≤ mkRat 999 soft.toNat + rabs (wh - w)
      obtain ⟨r1, r2, r3⟩ := rabs_le (wh - w)
      have k0 : 0 ≤ (v.steps : Rat) * mkRat 1 soft.toNat := Rat.mul_nonneg (by exact_mod_cast s0) hd
      have k1 : (v.steps : Rat) * mkRat 1 soft.toNat ≤ 1 := by
        have := Rat.mul_le_mul_of_nonneg_right (cast_le (show v.steps ≤ soft by omega)) hd
        rw [hf] at this
        exact this
      rw [e1, mk_k (v.steps + 1), mk_k v.steps, c1, mk_k 999, t999]
      rw [show ((v.steps : Rat) + 1) * mkRat 1 soft.toNat = (v.steps : Rat) * mkRat 1 soft.toNat + mkRat 1 soft.toNat by grind]
      generalize (v.steps : Rat) * mkRat 1 soft.toNat = x at *
      have b1 := Rat.mul_le_mul_of_nonneg_right r1 k0
      have b2 := Rat.mul_le_mul_of_nonneg_right r2 k0
      have b3 := Rat.mul_le_mul_of_nonneg_left k1 r3
      have b4 : rabs (wh - w) * x ≤ rabs (wh - w) := by grind
      constructor <;> grind
end Mx

namespace Mx
open PySem L2
/-! ### three mixers side by side -/
structure M3 (K : PySem.W.Frag) (cs : Cs) (Hb H : Hp) (m d k : Nat → Addr) (s : Nat → MixS) : Prop where
  at_ : ∀ j, j < 3 → MixAt K cs H (m j) (d j) (k j) (s j)
  fr : ∀ j, j < 3 → ∀ b ∈ (s j).foot (m j) (d j) (k j), Hb b = none
  dj : ∀ i j, i < 3 → j < 3 → i ≠ j → ∀ b ∈ (s i).foot (m i) (d i) (k i), b ∉ (s j).foot (m j) (d j) (k j)
section
variable {K : PySem.W.Frag} {cs : Cs} {Hb H H' : Hp} {m d k : Nat → Addr} {s : Nat → MixS} {F : List Addr}
theorem M3.st (h : M3 K cs Hb H m d k s) (g : Stp F H H') (n : ∀ j, j < 3 → ∀ b ∈ (s j).foot (m j) (d j) (k j), b ∉ F) : M3 K cs Hb H' m d k s := ⟨fun j hj => (h.at_ j hj).st g (n j hj), h.fr, h.dj⟩
theorem M3.st0 (h : M3 K cs Hb H m d k s) (g : Stp [] H H') : M3 K cs Hb H' m d k s := h.st g (by simp)
theorem M3.str (h : M3 K cs Hb H m d k s) {r : Addr} (g : Stp [r] H H') (hr : Hb r ≠ none) : M3 K cs Hb H' m d k s := h.st g fun j hj b hb z => hr (by rw [← List.mem_singleton.mp z]; exact h.fr j hj b hb)
def sput (s : Nat → MixS) (i : Nat) (x : MixS) : Nat → MixS := fun j => if j = i then x else s j
theorem sput_same (s : Nat → MixS) (i : Nat) (x : MixS) : sput s i x i = x := if_pos rfl
theorem sput_ne (s : Nat → MixS) {i j : Nat} (x : MixS) (h : j ≠ i) : sput s i x j = s j := if_neg h
theorem M3.step (h : M3 K cs Hb H m d k s) {i : Nat} (hi : i < 3) {x : MixS} (g : Stp F H H') (hF : ∀ b ∈ F, b ∈ (s i).foot (m i) (d i) (k i) ∨ H b = none) (hx : MixAt K cs H' (m i) (d i) (k i) x) (hf : ∀ b ∈ x.foot (m i) (d i) (k i), b ∈ (s i).foot (m i) (d i) (k i) ∨ H b = none) (hb0 : ∀ b, H b = none → Hb b = none) : M3 K cs Hb H' m d k (sput s i x) := by
  have hnone : ∀ j, j < 3 → ∀ b ∈ (s j).foot (m j) (d j) (k j), H b ≠ none := fun j hj b hb => (h.at_ j hj).some b hb
  refine ⟨fun j hj => ?_, fun j hj b hb => ?_, fun a c ha hc hac b hb hb' => ?_⟩
  · by_cases e : j = i
    · subst e
      rw [sput_same]
      exact hx
    · rw [sput_ne s x e]
      refine (h.at_ j hj).st g fun b hb z => ?_
      rcases hF b z with q | q
      · exact h.dj j i hj hi e b hb q
      · exact hnone j hj b hb q
  · by_cases e : j = i
    · subst e
      rw [sput_same] at hb
      rcases hf b hb with q | q
      · exact h.fr j hj b q
      · exact hb0 b q
    · rw [sput_ne s x e] at hb
      exact h.fr j hj b hb
  · by_cases ea : a = i
    · subst ea
      have ec : c ≠ a := Ne.symm hac
      rw [sput_same] at hb
      rw [sput_ne s x ec] at hb'
      rcases hf b hb with q | q
      · exact h.dj a c ha hc hac b q hb'
      · exact hnone c hc b hb' q
    · rw [sput_ne s x ea] at hb
      by_cases ec : c = i
      · subst ec
        rw [sput_same] at hb'
        rcases hf b hb' with q | q
        · exact h.dj a c ha hc hac b hb q
        · exact hnone a ha b hb q
      · rw [sput_ne s x ec] at hb'
        exact h.dj a c ha hc hac b hb hb'
theorem M3.re (h : M3 K cs Hb H m d k s) {s' : Nat → MixS} (e : ∀ j, j < 3 → s' j = s j) : M3 K cs Hb H m d k s' :=
  ⟨fun j hj => by rw [e j hj]; exact h.at_ j hj, fun j hj => by rw [e j hj]; exact h.fr j hj, fun i j hi hj => by rw [e i hi, e j hj]; exact h.dj i j hi hj⟩
end
/-! ### one voice that sounds from the begin -/
structure Wd (soft : Int) (t : Nat) (v : VoiceS) : Prop where
  he : v.heard = true
  H : t = 0 → v.word = wH
  R : 0 < t → (t : Int) < soft → v.word = wR ∧ v.steps = t
  O : 0 < t → soft ≤ (t : Int) → v.word = wO
def climb (soft : Int) (t : Nat) : Int := if (t : Int) + 1 ≤ soft then (t : Int) + 1 else soft
theorem Wd.give {soft : Int} {t : Nat} {v : VoiceS} (h : Wd soft t v) (so : 1 ≤ soft) (hr : v.line.ready (t : Int) = true) : Wd soft (t + 1) (v.give t soft) ∧ (v.give t soft).part = v.line.value t * v.loud.on.level * mkRat (climb soft t) soft.toNat ∧ (v.give t soft).word ≠ wH ∧ (v.give t soft).loud = v.loud.on ∧ (v.give t soft).line = v.line := by
  obtain ⟨n1, n2, n3, n4, n5, n6⟩ := wne
  have hm : v.may (t : Int) = true := by
    unfold VoiceS.may
    rw [h.he, hr]
    rfl
  have hS : mkRat soft soft.toNat = 1 := by rw [mk_k, mk_full so]
  by_cases h0 : t = 0
  · subst h0
    have hw := h.H rfl
    have hF : ¬ v.word = wF := fun z => n3 (hw.symm.trans z)
    have hO : ¬ v.word = wO := fun z => n2 (hw.symm.trans z)
    have e : v.give ((0 : Nat) : Int) soft = VoiceS.rise { v with loud := v.loud.on, word := wR, steps := 0 } (v.line.value ((0 : Nat) : Int) * v.loud.on.level) soft := by
      unfold VoiceS.give VoiceS.sound
      rw [if_neg hF, if_pos hm, if_neg (show ¬ ({ v with loud := v.loud.on } : VoiceS).word = wO from hO), if_pos (show ({ v with loud := v.loud.on } : VoiceS).word = wH from hw)]
    rw [e]
    have ew : (VoiceS.rise { v with loud := v.loud.on, word := wR, steps := 0 } (v.line.value ((0 : Nat) : Int) * v.loud.on.level) soft).word = if (0 : Int) + 1 = soft then wO else wR := rfl
    have ec : climb soft 0 = 0 + 1 := by unfold climb; rw [if_pos (by omega)]; rfl
    refine ⟨⟨h.he, fun z => by omega, fun _ z => ⟨?_, rfl⟩, fun _ z => ?_⟩, by rw [ec]; rfl, ?_, rfl, rfl⟩
    · rw [ew, if_neg (by omega)]
    · rw [ew, if_pos (by omega)]
    · rw [ew]
      split
      · exact n2.symm
      · exact n1.symm
  · by_cases hlt : (t : Int) < soft
    · obtain ⟨hw, hst⟩ := h.R (by omega) hlt
      have hF : ¬ v.word = wF := fun z => n5 (hw.symm.trans z)
      have hO : ¬ v.word = wO := fun z => n4 (hw.symm.trans z)
      have hH : ¬ v.word = wH := fun z => n1 (z.symm.trans hw)
      have e : v.give (t : Int) soft = VoiceS.rise { v with loud := v.loud.on } (v.line.value (t : Int) * v.loud.on.level) soft := by
        unfold VoiceS.give VoiceS.sound
        rw [if_neg hF, if_pos hm, if_neg (show ¬ ({ v with loud := v.loud.on } : VoiceS).word = wO from hO), if_neg (show ¬ ({ v with loud := v.loud.on } : VoiceS).word = wH from hH)]
      rw [e]
      have ew : (VoiceS.rise { v with loud := v.loud.on } (v.line.value (t : Int) * v.loud.on.level) soft).word = if v.steps + 1 = soft then wO else v.word := rfl
      have es : (VoiceS.rise { v with loud := v.loud.on } (v.line.value (t : Int) * v.loud.on.level) soft).steps = v.steps + 1 := rfl
      have ep : (VoiceS.rise { v with loud := v.loud.on } (v.line.value (t : Int) * v.loud.on.level) soft).part = v.line.value (t : Int) * v.loud.on.level * mkRat (v.steps + 1) soft.toNat := rfl
      have ec : climb soft t = v.steps + 1 := by unfold climb; rw [if_pos (by omega), hst]
      refine ⟨⟨h.he, fun z => by omega, fun _ z => ⟨?_, ?_⟩, fun _ z => ?_⟩, by rw [ec, ep], ?_, rfl, rfl⟩
      · rw [ew, if_neg (by omega), hw]
      · rw [es, hst]
        omega
      · rw [ew, if_pos (by omega)]
      · rw [ew, hw]
        split
        · exact n2.symm
        · exact n1.symm
    · have hw := h.O (by omega) (by omega)
      have hF : ¬ v.word = wF := fun z => n6 (hw.symm.trans z)
      have e : v.give (t : Int) soft = { v with loud := v.loud.on, part := v.line.value (t : Int) * v.loud.on.level } := by
        unfold VoiceS.give VoiceS.sound
        rw [if_neg hF, if_pos hm, if_pos (show ({ v with loud := v.loud.on } : VoiceS).word = wO from hw)]
      rw [e]
      have ec : climb soft t = soft := by unfold climb; rw [if_neg (by omega)]
      refine ⟨⟨h.he, fun z => by omega, fun _ z => by omega, fun _ _ => hw⟩, ?_, fun z => n2 (z.symm.trans hw), rfl, rfl⟩
      rw [ec, hS]
      show v.line.value (t : Int) * v.loud.on.level = _
      grind
/-- a voice that isn't heard gives nothing -/
structure Wq (v : VoiceS) : Prop where
  he : v.heard = false
  w : v.word = wH
  p : v.part = 0
theorem Wq.give {v : VoiceS} (h : Wq v) (t soft : Int) : Wq (v.give t soft) ∧ (v.give t soft).loud = v.loud.on ∧ (v.give t soft).line = v.line := by
  obtain ⟨n1, n2, n3, n4, n5, n6⟩ := wne
  have hm : v.may t = false := by
    unfold VoiceS.may
    rw [h.he]
    rfl
  have e : v.give t soft = { v with loud := v.loud.on } := by
    unfold VoiceS.give
    rw [if_neg (fun z => n3 (h.w.symm.trans z)), if_neg (by rw [hm]; decide), if_pos h.w]
  rw [e]
  exact ⟨⟨h.he, h.w, h.p⟩, rfl, rfl⟩
/-! ### the loudness, by own reckoning -/
structure Ld (L : LoudS) (F Q : Rat) (B O : Int) : Prop where
  b0 : 1 ≤ B
  b1 : B ≤ 64
  o0 : 0 ≤ O
  o1 : O ≤ B
  lv : L.level = F + (Q - F) * mkRat O B.toNat
  lt : O < B → L.left = B - O ∧ L.stride = (Q - F) * mkRat 1 B.toNat
  le : O = B → L.left = 0
theorem Ld.on {L : LoudS} {F Q : Rat} {B O : Int} (h : Ld L F Q B O) : Ld L.on F Q B (if O + 1 ≤ B then O + 1 else B) ∧ L.on.level = F * mkRat (B - (if O + 1 ≤ B then O + 1 else B)) B.toNat + Q * mkRat (if O + 1 ≤ B then O + 1 else B) B.toNat := by
  obtain ⟨b0, b1, o0, o1, lv, lt, le⟩ := h
  have key : ∀ O' : Int, 0 ≤ O' → F + (Q - F) * mkRat O' B.toNat = F * mkRat (B - O') B.toNat + Q * mkRat O' B.toNat := fun O' _ => by
    have hf := mk_full b0
    have e : mkRat (B - O') B.toNat = 1 - mkRat O' B.toNat := by
      rw [mk_k (B - O'), mk_k O', Rat.intCast_sub]
      grind
    rw [e]
    grind
  by_cases ho : O < B
  · obtain ⟨hl, hs⟩ := lt ho
    have eon : L.on = ⟨L.level + L.stride, L.stride, L.left - 1⟩ := by
      unfold LoudS.on
      rw [if_pos (by omega)]
    rw [if_pos (show O + 1 ≤ B by omega)]
    have e : L.on.level = F + (Q - F) * mkRat (O + 1) B.toNat := by
      rw [eon]
      show L.level + L.stride = _
      rw [lv, hs, ← mk_add O 1 (D := B.toNat) (by omega)]
      grind
    refine ⟨⟨b0, b1, by omega, by omega, e, fun z => ?_, fun z => ?_⟩, by rw [e]; exact key _ (by omega)⟩
    · rw [eon]
      exact ⟨by show L.left - 1 = _; omega, hs⟩
    · rw [eon]
      show L.left - 1 = 0
      omega
  · have hO : O = B := by omega
    have eon : L.on = L := by
      unfold LoudS.on
      rw [if_neg (by have := le hO; omega)]
    rw [if_neg (show ¬ O + 1 ≤ B by omega), eon]
    subst hO
    exact ⟨⟨b0, b1, o0, o1, lv, lt, le⟩, by rw [lv]; exact key _ o0⟩
theorem Ld.to {L : LoudS} {l b : Int} (b0 : 1 ≤ b) (b1 : b ≤ 64) : Ld (L.to l b) L.level (mkRat l 64) b 0 := by
  refine ⟨b0, b1, Int.le_refl 0, by omega, ?_, fun _ => ⟨?_, rfl⟩, fun z => by omega⟩
  · show L.level = L.level + _
    rw [mk0]
    grind
  · show b = b - 0
    omega
end Mx

namespace Mx
open PySem L2
set_option hygiene false in
local macro_rules | `(tactic| walk_at "rd") => `(tactic| try simp only [L2.start, List.map_cons, List.map_nil, List.length_cons, List.length_nil, Nat.reduceAdd, Nat.reduceSub, Nat.reduceLT, Nat.reduceLeDiff, List.replicate_succ, List.replicate_zero, List.append_nil, List.nil_append, List.cons_append, List.set_cons_zero, List.set_cons_succ, List.getElem?_cons_zero, List.getElem?_cons_succ,
  Option.some.injEq, List.cons.injEq, and_true, true_and, and_assoc, reduceCtorEq, L2.V.int.injEq, L2.V.ref.injEq, L2.V.bl.injEq, L2.V.str.injEq, L2.V.ty.injEq, L2.HO.ins.injEq, L2.HO.lst.injEq, L2.HO.tup.injEq, L2.HO.dK.injEq, exists_eq_left', exists_eq_left, exists_eq_right, exists_eq', exists_eq, exists_and_left, exists_and_right, reduceIte, Bool.false_eq_true, Bool.not_true, Bool.not_false,
  L2.tSeq, L2.tIfS, L2.tRet, L2.tRetN, L2.tNext, L2.tAsg, L2.gName, L2.tVar, L2.tC, L2.tCons, L2.tNil, L2.tCB, L2.tOp, L2.tUn, L2.tTup, L2.tLst, L2.tB, L2.tOr, L2.tAnd, L2.tNot, L2.tAndV, L2.tOrV, L2.tNotV, L2.tIf, L2.tTest, L2.tChain, L2.rI, L2.rI0, L2.rU, L2.tDrop, L2.tNever, L2.tCall, L2.tMeth, L2.tMake, L2.rGcd, L2.tFld, L2.sFld, L2.sFldAug, Mx.sFldA, Mx.sFldAugA, L2.rAdd, L2.rSub, L2.rEq, L2.rNe, L2.tDGet, L2.tDIn, L2.tDNotIn, L2.sDPut,
  Mx.isi_int_bool, Mx.isi_int_int, Mx.isi_int_tuple, Mx.isi_int_list, Mx.isi_int_str, Mx.scal_int, Mx.scal_str, Mx.scal_bl, Mx.ofString_inj, Mx.ofString_beq, Mx.lk_cons, Mx.pf_nil, Mx.pf_cons, Mx.sz1, Mx.sz2, List.lookup_nil, String.reduceEq, decide_true, decide_false, decide_eq_true_eq, Int.natAbs_natCast, L2.upd_same, L2.upd_upd, L2.cxOf, L2.gSub, L2.tPar, L2.gCons, L2.gNil, Mx.optV])
set_option hygiene false in
local macro_rules | `(tactic| walk_at "rds") => `(tactic| try simp only [L2.start, List.map_cons, List.map_nil, List.length_cons, List.length_nil, Nat.reduceAdd, Nat.reduceSub, Nat.reduceLT, Nat.reduceLeDiff, List.replicate_succ, List.replicate_zero, List.append_nil, List.nil_append, List.cons_append, List.set_cons_zero, List.set_cons_succ, List.getElem?_cons_zero, List.getElem?_cons_succ,
  Option.some.injEq, List.cons.injEq, and_true, true_and, and_assoc, reduceCtorEq, L2.V.int.injEq, L2.V.ref.injEq, L2.V.bl.injEq, L2.V.str.injEq, L2.V.ty.injEq, L2.HO.ins.injEq, L2.HO.lst.injEq, L2.HO.tup.injEq, L2.HO.dK.injEq, exists_eq_left', exists_eq_left, exists_eq_right, exists_eq', exists_eq, exists_and_left, exists_and_right, reduceIte, Bool.false_eq_true, Bool.not_true, Bool.not_false,
  L2.tSeq, L2.tIfS, L2.tRet, L2.tRetN, L2.tNext, L2.tAsg, L2.gName, L2.tVar, L2.tC, L2.tCons, L2.tNil, L2.tCB, L2.tOp, L2.tUn, L2.tTup, L2.tLst, L2.tB, L2.tOr, L2.tAnd, L2.tNot, L2.tAndV, L2.tOrV, L2.tNotV, L2.tIf, L2.tTest, L2.tChain, L2.rI, L2.rI0, L2.rU, L2.tDrop, L2.tNever, L2.tCall, L2.tMeth, L2.tMake, L2.rGcd, L2.tFld, L2.sFld, L2.sFldAug, Mx.sFldA, Mx.sFldAugA, L2.rAdd, L2.rSub, L2.rEq, L2.rNe, L2.tDGet, L2.tDIn, L2.tDNotIn, L2.sDPut,
  Mx.isi_int_bool, Mx.isi_int_int, Mx.isi_int_tuple, Mx.isi_int_list, Mx.isi_int_str, Mx.scal_int, Mx.scal_str, Mx.scal_bl, Mx.ofString_inj, Mx.ofString_beq, Mx.lk_cons, Mx.pf_nil, Mx.pf_cons, Mx.sz1, Mx.sz2, List.lookup_nil, String.reduceEq, decide_true, decide_false, decide_eq_true_eq, Int.natAbs_natCast, L2.upd_same, L2.upd_upd, L2.cxOf, L2.gSub, L2.tPar, L2.gCons, L2.gNil, Mx.optV, *])

section
variable {P : Program} {w : World} {K : PySem.W.Frag} {mg : Str → Option Value} {base : Heap}
/-- a fraction so many times over, of any breadth -/
def sp_timesW (K : PySem.W.Frag) : Sp := fun vs H Q _ => ∃ (a : Addr) (q : Rat) (t b : Int) (n m : Nat), vs = [.ref a, .int t, .int b] ∧ TupAt K H a (frac q) ∧ Rb n q ∧ 0 < b ∧ b.natAbs < 2 ^ m ∧ t.natAbs < 2 ^ m ∧ n + m < 9000 ∧ 0 < n ∧ 0 < m ∧ ∀ p H', H p = none → Stp [] H H' → H' p = some (.tup (frac (q * mkRat t b.toNat))) → Q (.ref p) H'
theorem sc_law_timesW : FnScope ["_law_one", "_law_top", "_law_bottom"] ["_law_one", "_law_top", "_law_bottom"] (defScope s_law_times) := ⟨rfl, rfl, rfl, by decide +kernel, rfl, by decide +kernel, by decide +kernel⟩
theorem ok_law_timesW {f : Addr} {fd : FuncData} (F : Fun K "_law_times" "_law_times" s_law_times f fd) (G : OwnF P w K mg base "_law_share" 1 ["_law_top", "_law_bottom"] sp_ratio) : FnOk P w K mg base CX0 2 f fd ["_law_one", "_law_top", "_law_bottom"] (sp_timesW K) := by
  refine F.ok sc_law_timesW (fun vs H Q E h => ?_) (fun cdv A outer s H vs Q E hr h => ?_)
  · obtain ⟨a, q, t, b, n, m, rfl, _⟩ := h
    rfl
  · obtain ⟨a, q, t, b, n, m, rfl, ha, hq, hb0, hb, ht, hl0, hn0, hm0, k⟩ := h
    refine ⟨_, pss_one (ps_ret (p_call G hr (pa_cons (pe_op op_mulW (pe_ix ix_tup (pv 0) pe_int (fun _ _ => rfl)) (pv 1)) (pa_cons (pe_op op_mulW (pe_ix ix_tup (pv 0) pe_int (fun _ _ => rfl)) (pv 2)) pa_nil)))), ?_⟩
    have hdp := q.den_pos
    walk_at "rd"
    refine ixT_0 ha ⟨_, rfl, wide_mul hq.num ht hn0 hm0 (by omega), ixT_1 ha ⟨_, rfl, wide_mul (by simpa using hq.den) hb hn0 hm0 (by omega), ?_⟩⟩
    have e : (q.den : Int) * b = ((q.den * b.toNat : Nat) : Int) := by rw [Int.natCast_mul]; congr 1; omega
    have hpos : 0 < q.den * b.toNat := Nat.mul_pos hdp (by omega)
    refine ⟨_, _, rfl, by rw [e]; omega, ?_, fun p H' hp hs hl => k p H' hp hs ?_⟩
    · rw [Int.natAbs_mul, Int.natAbs_natCast]
      exact Nat.lt_of_lt_of_le (Nat.mul_lt_mul'' hq.den hb) (by rw [← Nat.pow_add]; exact Nat.pow_le_pow_right (by decide) (by omega))
    · rw [e, Int.toNat_natCast, ← Rat.mkRat_mul_mkRat, Rat.mkRat_self] at hl
      exact hl
end
end Mx

namespace Mx
open PySem L2
set_option hygiene false in
local macro_rules | `(tactic| walk_at "rd") => `(tactic| try simp only [L2.start, List.map_cons, List.map_nil, List.length_cons, List.length_nil, Nat.reduceAdd, Nat.reduceSub, Nat.reduceLT, Nat.reduceLeDiff, List.replicate_succ, List.replicate_zero, List.append_nil, List.nil_append, List.cons_append, List.set_cons_zero, List.set_cons_succ, List.getElem?_cons_zero, List.getElem?_cons_succ,
  Option.some.injEq, List.cons.injEq, and_true, true_and, and_assoc, reduceCtorEq, L2.V.int.injEq, L2.V.ref.injEq, L2.V.bl.injEq, L2.V.str.injEq, L2.V.ty.injEq, L2.HO.ins.injEq, L2.HO.lst.injEq, L2.HO.tup.injEq, L2.HO.dK.injEq, exists_eq_left', exists_eq_left, exists_eq_right, exists_eq', exists_eq, exists_and_left, exists_and_right, reduceIte, Bool.false_eq_true, Bool.not_true, Bool.not_false,
  L2.tSeq, L2.tIfS, L2.tRet, L2.tRetN, L2.tNext, L2.tAsg, L2.gName, L2.tVar, L2.tC, L2.tCons, L2.tNil, L2.tCB, L2.tOp, L2.tUn, L2.tTup, L2.tLst, L2.tB, L2.tOr, L2.tAnd, L2.tNot, L2.tAndV, L2.tOrV, L2.tNotV, L2.tIf, L2.tTest, L2.tChain, L2.rI, L2.rI0, L2.rU, L2.tDrop, L2.tNever, L2.tCall, L2.tMeth, L2.tMake, L2.rGcd, L2.tFld, L2.sFld, L2.sFldAug, Mx.sFldA, Mx.sFldAugA, L2.rAdd, L2.rSub, L2.rEq, L2.rNe, L2.tDGet, L2.tDIn, L2.tDNotIn, L2.sDPut,
  Mx.isi_int_bool, Mx.isi_int_int, Mx.isi_int_tuple, Mx.isi_int_list, Mx.isi_int_str, Mx.scal_int, Mx.scal_str, Mx.scal_bl, Mx.ofString_inj, Mx.ofString_beq, Mx.lk_cons, Mx.pf_nil, Mx.pf_cons, Mx.sz1, Mx.sz2, List.lookup_nil, String.reduceEq, decide_true, decide_false, decide_eq_true_eq, Int.natAbs_natCast, L2.upd_same, L2.upd_upd, L2.cxOf, L2.gSub, L2.tPar, L2.gCons, L2.gNil])
set_option hygiene false in
local macro_rules | `(tactic| walk_at "rds") => `(tactic| try simp only [L2.start, List.map_cons, List.map_nil, List.length_cons, List.length_nil, Nat.reduceAdd, Nat.reduceSub, Nat.reduceLT, Nat.reduceLeDiff, List.replicate_succ, List.replicate_zero, List.append_nil, List.nil_append, List.cons_append, List.set_cons_zero, List.set_cons_succ, List.getElem?_cons_zero, List.getElem?_cons_succ,
  Option.some.injEq, List.cons.injEq, and_true, true_and, and_assoc, reduceCtorEq, L2.V.int.injEq, L2.V.ref.injEq, L2.V.bl.injEq, L2.V.str.injEq, L2.V.ty.injEq, L2.HO.ins.injEq, L2.HO.lst.injEq, L2.HO.tup.injEq, L2.HO.dK.injEq, exists_eq_left', exists_eq_left, exists_eq_right, exists_eq', exists_eq, exists_and_left, exists_and_right, reduceIte, Bool.false_eq_true, Bool.not_true, Bool.not_false,
  L2.tSeq, L2.tIfS, L2.tRet, L2.tRetN, L2.tNext, L2.tAsg, L2.gName, L2.tVar, L2.tC, L2.tCons, L2.tNil, L2.tCB, L2.tOp, L2.tUn, L2.tTup, L2.tLst, L2.tB, L2.tOr, L2.tAnd, L2.tNot, L2.tAndV, L2.tOrV, L2.tNotV, L2.tIf, L2.tTest, L2.tChain, L2.rI, L2.rI0, L2.rU, L2.tDrop, L2.tNever, L2.tCall, L2.tMeth, L2.tMake, L2.rGcd, L2.tFld, L2.sFld, L2.sFldAug, Mx.sFldA, Mx.sFldAugA, L2.rAdd, L2.rSub, L2.rEq, L2.rNe, L2.tDGet, L2.tDIn, L2.tDNotIn, L2.sDPut,
  Mx.isi_int_bool, Mx.isi_int_int, Mx.isi_int_tuple, Mx.isi_int_list, Mx.isi_int_str, Mx.scal_int, Mx.scal_str, Mx.scal_bl, Mx.ofString_inj, Mx.ofString_beq, Mx.lk_cons, Mx.pf_nil, Mx.pf_cons, Mx.sz1, Mx.sz2, List.lookup_nil, String.reduceEq, decide_true, decide_false, decide_eq_true_eq, Int.natAbs_natCast, L2.upd_same, L2.upd_upd, L2.cxOf, L2.gSub, L2.tPar, L2.gCons, L2.gNil, *])

section
variable {P : Program} {w : World} {K : PySem.W.Frag} {mg : Str → Option Value} {base : Heap}
theorem sc_law_plus : FnScope ["_law_one", "_law_other"] ["_law_one", "_law_other"] (defScope s_law_plus) := ⟨rfl, rfl, rfl, by decide +kernel, rfl, by decide +kernel, by decide +kernel⟩
theorem ok_law_plus {f : Addr} {fd : FuncData} (F : Fun K "_law_plus" "_law_plus" s_law_plus f fd) (G : OwnF P w K mg base "_law_share" 1 ["_law_top", "_law_bottom"] sp_ratio) : FnOk P w K mg base CX0 2 f fd ["_law_one", "_law_other"] (sp_two (· + ·) K) := by
  refine F.ok sc_law_plus (fun vs H Q E h => ?_) (fun cdv A outer s H vs Q E hr h => ?_)
  · obtain ⟨a, b, q, r, n, m, rfl, _⟩ := h
    rfl
  · obtain ⟨a, b, q, r, n, m, rfl, ha, hb, hn, hm, hl, hn0, hm0, k⟩ := h
    refine ⟨_, pss_one (ps_ret (p_call G hr (pa_cons (pe_op op_add (pe_op op_mulW (pe_ix ix_tup (pv 0) pe_int (fun _ _ => rfl)) (pe_ix ix_tup (pv 1) pe_int (fun _ _ => rfl))) (pe_op op_mulW (pe_ix ix_tup (pv 1) pe_int (fun _ _ => rfl)) (pe_ix ix_tup (pv 0) pe_int (fun _ _ => rfl))))
      (pa_cons (pe_op op_mulW (pe_ix ix_tup (pv 0) pe_int (fun _ _ => rfl)) (pe_ix ix_tup (pv 1) pe_int (fun _ _ => rfl))) pa_nil)))), ?_⟩
    walk_at "rd"
    have e1 : 2 ^ n * 2 ^ m = 2 ^ (n + m) := (Nat.pow_add 2 n m).symm
    refine ixT_0 ha (ixT_1 hb ⟨_, rfl, _, rfl, wide_mul hn.num (by simpa using hm.den) hn0 hm0 (by omega), ixT_0 hb (ixT_1 ha ⟨_, rfl, _, rfl, wide_mul hm.num (by simpa using hn.den) hm0 hn0 (by omega), ixT_1 ha (ixT_1 hb ⟨_, rfl, _, rfl, wide_mul (by simpa using hn.den) (by simpa using hm.den) hn0 hm0 (by omega), ?_⟩)⟩)⟩)
    have hd : (q.den : Int) * (r.den : Int) = ((q.den * r.den : Nat) : Int) := by simp
    refine ⟨_, _, rfl, ?_, ?_, fun p H' hp hs hl' => k p H' hp hs ?_⟩
    · rw [hd]
      have := Nat.mul_pos q.den_pos r.den_pos
      omega
    · rw [hd, Int.natAbs_natCast]
      exact Nat.lt_of_lt_of_le (Nat.mul_lt_mul'' hn.den hm.den) (by rw [e1]; exact Nat.pow_le_pow_right (by decide) (by omega))
    · rw [hd, Int.toNat_natCast, add_mk] at hl'
      exact hl'
end
end Mx

namespace Mx
open PySem L2
abbrev N16 : List Str := ["_law_script", "_law_row", "_law_soft", "_law_pace_here", "_law_k", "_law_numbers", "_law_mixers", "_law_mixer", "_law_place", "_law_first", "_law_last", "_law_beats", "_law_over", "_law_most", "_law_beat", "_law_loud", "_law_found", "_law_due", "_law_name", "_law_word", "_law_part"]
theorem sc_law : FnScope N16 ["_law_script"] (defScope s_law) := ⟨rfl, rfl, rfl, by decide +kernel, rfl, by decide +kernel, by decide +kernel⟩
def sp_law (K : PySem.W.Frag) : Sp := fun vs H Q _ => ∃ (a : Addr) (ns : List Int), vs = [.ref a] ∧ SqL K H a (ns.map V.int) ∧ ns.length ≤ 63 ∧ ∀ H', Q (.bl true) H'
def forBody : Stmt → List Stmt
  | .For _ _ b _ _ => b
  | _ => []
def ifThen : Stmt → List Stmt
  | .If _ b _ _ => b
  | _ => []
abbrev pass0d : Stmt := .Pass ⟨0, 0, 0, 0⟩
abbrev fS : List Stmt := forBody ((defBody s_law).getD 4 pass0d)
abbrev bS : List Stmt := forBody ((defBody s_law).getD 8 pass0d)
structure G16 (P : Program) (w : World) (K : PySem.W.Frag) (mg : Str → Option Value) (base : Heap) (cs : Cs) : Prop where
  min : mg "min" = none
  int : mg "int" = none
  taken : OwnF P w K mg base "_law_taken" 1 ["_law_row", "_law_many"] (sp_taken K)
  number : OwnF P w K mg base "_law_number" 2 ["_law_row"] (sp_drawn K (-999) 999)
  pace : OwnF P w K mg base "_law_pace" 2 ["_law_row"] (sp_law_pace K)
  share : OwnF P w K mg base "_law_share" 1 ["_law_top", "_law_bottom"] sp_ratio
  plus : OwnF P w K mg base "_law_plus" 2 ["_law_one", "_law_other"] (sp_two (· + ·) K)
  times : OwnF P w K mg base "_law_times" 2 ["_law_one", "_law_top", "_law_bottom"] (sp_timesW K)
  mixer : OwnC P w K mg base cs.M "Mixer" 3 ["self", "soft"] (sp_Mixer_init K cs)
  add : OwnM P w K mg base cs.M "add" 6 ["self", "name", "pace", "wait", "loudness"] (sp_Mixer_add K cs)
  parcel : OwnM P w K mg base cs.M "parcel" 4 ["self", "name", "place", "numbers"] (sp_Mixer_parcel K cs)
  lead : OwnM P w K mg base cs.M "lead" 4 ["self", "name", "loudness", "beats"] (sp_Mixer_lead K cs)
  hush : OwnM P w K mg base cs.M "hush" 4 ["self", "name"] (sp_Mixer_heard K cs false)
  beat : OwnM P w K mg base cs.M "beat" 8 ["self"] (sp_Mixer_beatX K cs)
  missed : OwnM P w K mg base cs.M "missed" 1 ["self"] (sp_Mixer_missed K cs)
  states : OwnM P w K mg base cs.M "states" 2 ["self"] (sp_Mixer_states K cs)
abbrev XL (P : Program) (w : World) (K : PySem.W.Frag) (mg : Str → Option Value) (base : Heap) (f : Addr) (cdv : Value) (A : Around) (outer : List Env) (s : Shared) (H : Hp) (E : XK) : Cx := (cxOf CX0 P w K mg base N16 "law" (defScope s_law) f cdv A outer s H E).nox
/-- a voice to which the first n numbers came -/
def Pr (xs : List Int) (pn pb wt ld : Int) (n : Nat) (v : VoiceS) : Prop := ∃ c re, v = ⟨⟨pn, pb, wt, c, re, none⟩, ⟨mkRat ld 64, 0, 0⟩, true, wH, 0, 0, 0⟩ ∧ Cov c xs n ∧ (∀ p ∈ c, -999 ≤ p.2 ∧ p.2 ≤ 999) ∧ c.length ≤ n ∧ re ≤ (xs.length : Int) ∧ n ≤ xs.length
theorem cut_nat (xs : List Int) (n m : Nat) (h : n ≤ xs.length) : cutV (xs.map V.int) (some (n : Int)) (some ((n : Int) + (m : Int))) = ((xs.drop n).take (min (n + m) xs.length - n)).map V.int := by
  unfold cutV
  rw [show (n : Int) + (m : Int) = ((n + m : Nat) : Int) by omega, HT.sIx_nat, HT.sIx_nat, List.length_map, Nat.min_eq_left h, List.map_take, List.map_drop]
theorem foot1 (m d k : Addr) (so t : Int) (A : VA) (v : VoiceS) (l : List (Int × Int)) : MixS.foot m d k ⟨so, t, [(1, A, v)], l⟩ = m :: d :: k :: A.foot := by
  unfold MixS.foot
  simp
theorem set1 (n : Int) (A : VA) (v v' : VoiceS) : setV [(n, A, v)] n v' = [(n, A, v')] := by
  unfold setV
  simp
set_option hygiene false in
local macro_rules | `(tactic| walk_at "rd") => `(tactic| try simp only [L2.start, List.map_cons, List.map_nil, List.length_cons, List.length_nil, Nat.reduceAdd, Nat.reduceSub, Nat.reduceLT, Nat.reduceLeDiff, List.replicate_succ, List.replicate_zero, List.append_nil, List.nil_append, List.cons_append, List.set_cons_zero, List.set_cons_succ, List.getElem?_cons_zero, List.getElem?_cons_succ,
  Option.some.injEq, List.cons.injEq, and_true, true_and, and_assoc, reduceCtorEq, L2.V.int.injEq, L2.V.ref.injEq, L2.V.bl.injEq, L2.V.str.injEq, L2.V.ty.injEq, L2.HO.ins.injEq, L2.HO.lst.injEq, L2.HO.tup.injEq, L2.HO.dK.injEq, exists_eq_left', exists_eq_left, exists_eq_right, exists_eq', exists_eq, exists_and_left, exists_and_right, reduceIte, Bool.false_eq_true, Bool.not_true, Bool.not_false,
  L2.tSeq, L2.tIfS, L2.tRet, L2.tRetN, L2.tNext, L2.tAsg, L2.gName, L2.tVar, L2.tC, L2.tCons, L2.tNil, L2.tCB, L2.tOp, L2.tUn, L2.tTup, L2.tLst, L2.tB, L2.tOr, L2.tAnd, L2.tNot, L2.tAndV, L2.tOrV, L2.tNotV, L2.tIf, L2.tTest, L2.tChain, L2.rI, L2.rI0, L2.rU, L2.tDrop, L2.tNever, L2.tCall, L2.tMeth, L2.tMake, L2.rGcd, L2.tFld, L2.sFld, L2.sFldAug, Mx.sFldA, Mx.sFldAugA, L2.rAdd, L2.rSub, L2.rEq, L2.rNe, L2.tDGet, L2.tDIn, L2.tDNotIn, L2.sDPut,
  Mx.isi_int_bool, Mx.isi_int_int, Mx.isi_int_tuple, Mx.isi_int_list, Mx.isi_int_str, Mx.scal_int, Mx.scal_str, Mx.scal_bl, Mx.ofString_inj, Mx.ofString_beq, Mx.lk_cons, Mx.pf_nil, Mx.pf_cons, Mx.sz1, Mx.sz2, List.lookup_nil, String.reduceEq, decide_true, decide_false, decide_eq_true_eq, Int.natAbs_natCast, L2.upd_same, L2.upd_upd, L2.cxOf, L2.gSub, L2.tPar, L2.gCons, L2.gNil, Mx.optV, Mx.fsM, L2.tSl, L2.tPart, L2.rSlL])
set_option hygiene false in
local macro_rules | `(tactic| walk_at "rds") => `(tactic| try simp only [L2.start, List.map_cons, List.map_nil, List.length_cons, List.length_nil, Nat.reduceAdd, Nat.reduceSub, Nat.reduceLT, Nat.reduceLeDiff, List.replicate_succ, List.replicate_zero, List.append_nil, List.nil_append, List.cons_append, List.set_cons_zero, List.set_cons_succ, List.getElem?_cons_zero, List.getElem?_cons_succ,
  Option.some.injEq, List.cons.injEq, and_true, true_and, and_assoc, reduceCtorEq, L2.V.int.injEq, L2.V.ref.injEq, L2.V.bl.injEq, L2.V.str.injEq, L2.V.ty.injEq, L2.HO.ins.injEq, L2.HO.lst.injEq, L2.HO.tup.injEq, L2.HO.dK.injEq, exists_eq_left', exists_eq_left, exists_eq_right, exists_eq', exists_eq, exists_and_left, exists_and_right, reduceIte, Bool.false_eq_true, Bool.not_true, Bool.not_false,
  L2.tSeq, L2.tIfS, L2.tRet, L2.tRetN, L2.tNext, L2.tAsg, L2.gName, L2.tVar, L2.tC, L2.tCons, L2.tNil, L2.tCB, L2.tOp, L2.tUn, L2.tTup, L2.tLst, L2.tB, L2.tOr, L2.tAnd, L2.tNot, L2.tAndV, L2.tOrV, L2.tNotV, L2.tIf, L2.tTest, L2.tChain, L2.rI, L2.rI0, L2.rU, L2.tDrop, L2.tNever, L2.tCall, L2.tMeth, L2.tMake, L2.rGcd, L2.tFld, L2.sFld, L2.sFldAug, Mx.sFldA, Mx.sFldAugA, L2.rAdd, L2.rSub, L2.rEq, L2.rNe, L2.tDGet, L2.tDIn, L2.tDNotIn, L2.sDPut,
  Mx.isi_int_bool, Mx.isi_int_int, Mx.isi_int_tuple, Mx.isi_int_list, Mx.isi_int_str, Mx.scal_int, Mx.scal_str, Mx.scal_bl, Mx.ofString_inj, Mx.ofString_beq, Mx.lk_cons, Mx.pf_nil, Mx.pf_cons, Mx.sz1, Mx.sz2, List.lookup_nil, String.reduceEq, decide_true, decide_false, decide_eq_true_eq, Int.natAbs_natCast, L2.upd_same, L2.upd_upd, L2.cxOf, L2.gSub, L2.tPar, L2.gCons, L2.gNil, Mx.optV, Mx.fsM, L2.tSl, L2.tPart, L2.rSlL, *])

section
variable {P : Program} {w : World} {K : PySem.W.Frag} {mg : Str → Option Value} {base : Heap} {cs : Cs}
theorem pl_ok (B : Blt mg) (G : G16 P w K mg base cs) {f : Addr} {cdv : Value} {A : Around} {outer : List Env} {s0 : Shared} {H : Hp} {E : XK} (hr : Room 9 (A.deeper (PyProof.Rows.envOfC "law" (defScope s_law) s0.heap.objs.size f cdv))) :
    ∃ t, PS (XL P w K mg base f cdv A outer s0 H E) (fS.getD 1 pass0d) t ∧ ∀ (D : Ends) (Hb H1 : Hp) (m d k : Nat → Addr) (s : Nat → MixS) (i : Nat) (nu : Addr) (VAd : VA) (v : VoiceS) (so pn pb : Int) (xs : List Int) (x0 x1 x2 x3 x4 x6 x8 x9 x10 x11 x12 x13 x14 x15 x16 x17 x18 x19 x20 : Option V),
      M3 K cs Hb H1 m d k s → i < 3 → s i = ⟨so, 0, [(1, VAd, v)], []⟩ → Pr xs pn pb 0 64 0 v → xs.length = 1000 → (∀ n ∈ xs, -999 ≤ n ∧ n ≤ 999) → H1 nu = some (.lst (xs.map V.int)) → Hb nu ≠ none → (∀ b, H1 b = none → Hb b = none) →
      (∀ H2 y8 v', M3 K cs Hb H2 m d k (sput s i ⟨so, 0, [(1, VAd, v')], []⟩) → Pr xs pn pb 0 64 1000 v' → Stp ((s i).foot (m i) (d i) (k i)) H1 H2 → D.nx [x0, x1, x2, x3, x4, some (.ref nu), x6, some (.ref (m i)), y8, x9, x10, x11, x12, x13, x14, x15, x16, x17, x18, x19, x20] H2) →
      t D [x0, x1, x2, x3, x4, some (.ref nu), x6, some (.ref (m i)), x8, x9, x10, x11, x12, x13, x14, x15, x16, x17, x18, x19, x20] H1 := by
  have nd := sc_law.nd
  have r4 := hr.mono (show 4 ≤ 9 by decide)
  refine ⟨_, (ps_for PassesOwn.never rfl (pi_range3 (by rfl) B.range (pa_cons pe_int (pa_cons pe_int (pa_cons pe_int pa_nil)))) (pg_name (i := 8) nd rfl (.inl rfl))
    (pss_one (ps_expr (p_meth G.parcel r4 (pv 7) (pa_cons pe_int (pa_cons (pv 8) (pa_cons (pe_slice sl_list (pv 5) (po_some (pv 8)) (po_some (pe_op op_add (pv 8) pe_int))) pa_nil))))))), ?_⟩
  intro D Hb H1 m d k s i nu VAd v so pn pb xs x0 x1 x2 x3 x4 x6 x8 x9 x10 x11 x12 x13 x14 x15 x16 x17 x18 x19 x20 hM hi hs hP hxl hxs hnu hnub hfr q
  walk_at "rd"
  refine ⟨0, 1000, 25, 40, rfl, ⟨by decide, by decide, by decide +kernel, by decide +kernel⟩, ?_⟩
  have hfi : (s i).foot (m i) (d i) (k i) = m i :: d i :: k i :: VAd.foot := by rw [hs, foot1]
  have hnuf : nu ∉ (s i).foot (m i) (d i) (k i) := fun z => hnub (hM.fr i hi nu z)
  refine for_rangeC (lo := 0) (c := 25) (n := 40) (fun j σ H2 => ∃ y8 v', σ = [x0, x1, x2, x3, x4, some (.ref nu), x6, some (.ref (m i)), y8, x9, x10, x11, x12, x13, x14, x15, x16, x17, x18, x19, x20] ∧ M3 K cs Hb H2 m d k (sput s i ⟨so, 0, [(1, VAd, v')], []⟩) ∧ Pr xs pn pb 0 64 (25 * j) v' ∧ Stp ((s i).foot (m i) (d i) (k i)) H1 H2)
    ⟨_, v, rfl, hM.re fun j hj => by by_cases e : j = i; rw [e, sput_same, hs]; exact sput_ne s _ e, hP, Stp.refl.sub (by simp)⟩ (fun j σ H2 hj h => ?_) (fun σ H2 h => ?_)
  · obtain ⟨y8, v', rfl, hM2, hP2, s2⟩ := h
    obtain ⟨c, re, rfl, hcov, hcin, hcl, hre, hnx⟩ := hP2
    have hMi := hM2.at_ i hi
    rw [sput_same] at hMi
    obtain ⟨dxm, hm⟩ := id hMi.ob
    have hnu2 := s2.keep _ _ hnu hnuf
    walk_at "rd"
    refine ⟨dxm, _, hm, by walk_at "rd", _, .inl (.inl hnu2), fun p hp => ?_⟩
    have hn : (0 + (j : Int) * 25) = ((25 * j : Nat) : Int) := by omega
    rw [hn]
    obtain ⟨n, en⟩ : ∃ n, n = 25 * j := ⟨_, rfl⟩
    rw [← en] at hcov hcl hnx ⊢
    have hn1 : n + 25 ≤ 1000 := by omega
    have hcut := cut_nat xs n 25 hnx
    rw [show (n : Int) + ((25 : Nat) : Int) = (n : Int) + 25 from rfl, show min (n + 25) xs.length - n = 25 by omega] at hcut
    rw [hcut]
    have s3 := Stp.new (o := .lst (((xs.drop n).take 25).map V.int)) hp
    have hl3 : upd H2 p (.lst (((xs.drop n).take 25).map V.int)) p = some (.lst (((xs.drop n).take 25).map V.int)) := upd_same
    have hM3 := hM2.st0 s3
    generalize upd H2 p (.lst (((xs.drop n).take 25).map V.int)) = H3 at *
    have hcl3 : ((xs.drop n).take 25).length = 25 := by
      rw [List.length_take, List.length_drop]
      omega
    have hMi3 := hM3.at_ i hi
    rw [sput_same] at hMi3
    have hpf : p ∉ VAd.foot := fun z => hMi.some p (by rw [foot1]; simp [z]) hp
    refine ⟨m i, d i, k i, p, ⟨so, 0, [(1, VAd, ⟨⟨pn, pb, 0, c, re, none⟩, ⟨mkRat 64 64, 0, 0⟩, true, wH, 0, 0, 0⟩)], []⟩, (1, VAd, ⟨⟨pn, pb, 0, c, re, none⟩, ⟨mkRat 64 64, 0, 0⟩, true, wH, 0, 0, 0⟩), (n : Int), (xs.drop n).take 25, rfl, hMi3, List.mem_cons_self, by show (0 : Int) ≤ 1; decide, by show (1 : Int) ≤ 5; decide, .inl (.inl hl3), hpf, ⟨by omega, by omega, by omega, by omega, fun y hy => hxs y (List.mem_of_mem_drop (List.mem_of_mem_take hy)), ?_⟩, by show c.length ≤ 90000; omega, fun H4 hM4 s4 => ?_⟩
    · show _ ≤ ((none : Option Int).getD 1000)
      show _ ≤ (1000 : Int)
      omega
    have hF4 : ∀ b ∈ VAd.foot, b ∈ (s i).foot (m i) (d i) (k i) := fun b hb => by rw [hfi]; simp [hb]
    simp only [set1] at hM4
    have hM5 := hM3.step hi s4 (fun b hb => .inl (by rw [sput_same, foot1]; simp [show b ∈ VAd.foot from hb])) hM4 (fun b hb => .inl (by rw [foot1] at hb; rw [sput_same, foot1]; exact hb)) (fun b hb => hfr b (s2.free (s3.free hb (by simp)) fun z => hMi3.some b (by rw [foot1]; rw [hfi] at z; exact z) hb))
    refine ⟨_, hM5.re fun j' hj' => ?_, ⟨putAll c (n : Int) ((xs.drop n).take 25), max re ((n : Int) + (((xs.drop n).take 25).length : Int)), rfl, ?_, ?_, ?_, ?_, ?_⟩, ((s2.trans s3).trans s4).sub fun b hb => ?_⟩
    · unfold sput
      split <;> rfl
    · have := cov_all (xs := xs) 25 c n (by omega) hcov
      rw [show n + 25 = 25 * (j + 1) by omega] at this
      exact this
    · exact putAll_in _ _ _ hcin fun y hy => hxs y (List.mem_of_mem_drop (List.mem_of_mem_take hy))
    · have := putAll_len ((xs.drop n).take 25) c (n : Int)
      omega
    · rw [hcl3]
      omega
    · omega
    · simp only [List.append_nil, List.mem_append] at hb
      exact hb.elim id (hF4 b)
  · obtain ⟨y8, v', rfl, hM2, hP2, s2⟩ := h
    exact q H2 y8 v' hM2 hP2 s2
end
end Mx

namespace Mx
open PySem L2
def mid (S S' : Nat → MixS) (i : Nat) : Nat → MixS := fun j => if j < i then S' j else S j
theorem mid_at (S S' : Nat → MixS) (i : Nat) : mid S S' i i = S i := if_neg (Nat.lt_irrefl i)
theorem mid_put (S S' : Nat → MixS) (i j : Nat) : mid S S' (i + 1) j = sput (mid S S' i) i (S' i) j := by
  unfold mid sput
  by_cases e : j = i
  · subst e
    rw [if_pos (by omega), if_pos rfl]
  · rw [if_neg e]
    by_cases h : j < i
    · rw [if_pos (by omega)]
      exact (if_pos h).symm
    · rw [if_neg (by omega)]
      exact (if_neg h).symm
def ms3 (m : Nat → Addr) : List V := (List.range 3).map fun j => V.ref (m j)
theorem ms3_at {m : Nat → Addr} {i : Nat} {x : V} (h : (ms3 m)[i]? = some x) : i < 3 ∧ x = .ref (m i) := by
  unfold ms3 at h
  rw [List.getElem?_map] at h
  by_cases hi : i < 3
  · rw [List.getElem?_range hi] at h
    exact ⟨hi, (Option.some.inj h).symm⟩
  · rw [List.getElem?_eq_none (by rw [List.length_range]; omega)] at h
    cases h
theorem ms3_len (m : Nat → Addr) : (ms3 m).length = 3 := by unfold ms3; rw [List.length_map, List.length_range]
def so3 (soft : Int) (j : Nat) : Int := if j = 0 then 1 else soft
/-- the line of a voice to which all numbers came -/
structure LF (xs : List Int) (pn pb : Int) (l : LineS) : Prop where
  pn : l.pn = pn
  pb : l.pb = pb
  beg : l.beg = 0
  many : l.many = none
  cov : Cov l.came xs 1000
theorem LF.value {xs : List Int} {pn pb : Int} {l l' : LineS} (h : LF xs pn pb l) (h' : LF xs pn pb l') (t : Int) : l.value t = l'.value t := by
  have e : ∀ i, l.at i = l'.at i := fun i => by unfold LineS.at; rw [h.cov, h'.cov]
  unfold LineS.value LineS.rest LineS.low
  rw [h.pn, h.pb, h.beg, h'.pn, h'.pb, h'.beg]
  simp only [e]
theorem LF.ready {xs : List Int} {pn pb : Int} {l : LineS} (h : LF xs pn pb l) (hx : xs.length = 1000) {t : Int} (pb1 : 1 ≤ pb) (pn1 : 1 ≤ pn) (t0 : 0 ≤ t) (ht : t * pn / pb ≤ 998) : l.ready t = true ∧ l.lacks t = false := by
  have hb : l.begun t = true := by unfold LineS.begun; rw [h.beg]; exact decide_eq_true t0
  have ho : l.over t = false := by unfold LineS.over; rw [h.many]
  have hl : l.low t = t * pn / pb := by unfold LineS.low; rw [h.pn, h.pb, h.beg, Int.sub_zero]
  have hl0 : 0 ≤ l.low t := by rw [hl]; exact Int.ediv_nonneg (Int.mul_nonneg t0 (by omega)) (by omega)
  have hs : ∀ i : Int, 0 ≤ i → i ≤ 999 → l.has i = true := fun i i0 i1 => by
    unfold LineS.has
    rw [h.cov, if_pos ⟨i0, by omega⟩, List.getElem?_eq_getElem (by omega)]
    rfl
  have hk : l.lacks t = false := by
    unfold LineS.lacks
    rw [hb, ho]
    have : (l.want t).any (fun i => !l.has i) = false := by
      rw [List.any_eq_false]
      intro i hi
      have : l.has i = true := by
        unfold LineS.want at hi
        split at hi
        · rw [List.mem_singleton.mp hi]
          exact hs _ hl0 (by omega)
        · rcases List.mem_cons.mp hi with rfl | hi
          · exact hs _ hl0 (by omega)
          · rw [List.mem_singleton.mp hi]
            exact hs _ (by omega) (by omega)
      rw [this]
      decide
    rw [this]
    rfl
  refine ⟨?_, hk⟩
  unfold LineS.ready
  rw [hb, ho, hk]
  rfl
def mx3 (soft : Int) (t : Int) (A : Nat → VA) (v : Nat → VoiceS) (j : Nat) : MixS := ⟨so3 soft j, t, [(1, A j, v j)], []⟩
structure Z16 (K : PySem.W.Frag) (cs : Cs) (Hb H : Hp) (m d k : Nat → Addr) (soft pn pb : Int) (xs : List Int) (t : Nat) (A : Nat → VA) (v : Nat → VoiceS) (L : LoudS) (n : Nat) : Prop where
  m3 : M3 K cs Hb H m d k (mx3 soft t A v)
  ln : ∀ j, j < 3 → LF xs pn pb (v j).line
  ld : ∀ j, j < 3 → (v j).loud = L
  w0 : Wd 1 t (v 0)
  w1 : Wd soft t (v 1)
  w2 : Wq (v 2)
  ok : ∀ j, j < 3 → VoiceOk n (so3 soft j) (v j)
theorem foot3 (m d k : Nat → Addr) (soft t : Int) (A : Nat → VA) (v : Nat → VoiceS) (j : Nat) : (mx3 soft t A v j).foot (m j) (d j) (k j) = m j :: d j :: k j :: (A j).foot := foot1 _ _ _ _ _ _ _ _
theorem LoudOk.mono {d e : Nat} {s : LoudS} (h : LoudOk d s) (l : d ≤ e) : LoudOk e s := by
  obtain ⟨D, a, b, h1, h2⟩ := h
  exact ⟨D, a, b, h1, Nat.lt_of_lt_of_le h2 (Nat.pow_le_pow_right (by decide) l)⟩
theorem VoiceOk.mono {d e : Nat} {soft : Int} {v : VoiceS} (h : VoiceOk d soft v) (l : d ≤ e) : VoiceOk e soft v :=
  ⟨h.line, h.loud.mono l, h.word, h.stR, h.stF, h.part.mono (by omega), fun z => (h.partS z).mono (by omega), fun z => (h.height z).mono (by omega)⟩
theorem VoiceOk.louded {d : Nat} {soft : Int} {v : VoiceS} (h : VoiceOk d soft v) {l : LoudS} (hl : LoudOk d l) : VoiceOk d soft { v with loud := l } :=
  ⟨h.line, hl, h.word, h.stR, h.stF, h.part, h.partS, h.height⟩
set_option hygiene false in
local macro_rules | `(tactic| walk_at "rd") => `(tactic| try simp only [L2.start, List.map_cons, List.map_nil, List.length_cons, List.length_nil, Nat.reduceAdd, Nat.reduceSub, Nat.reduceLT, Nat.reduceLeDiff, List.replicate_succ, List.replicate_zero, List.append_nil, List.nil_append, List.cons_append, List.set_cons_zero, List.set_cons_succ, List.getElem?_cons_zero, List.getElem?_cons_succ,
  Option.some.injEq, List.cons.injEq, and_true, true_and, and_assoc, reduceCtorEq, L2.V.int.injEq, L2.V.ref.injEq, L2.V.bl.injEq, L2.V.str.injEq, L2.V.ty.injEq, L2.HO.ins.injEq, L2.HO.lst.injEq, L2.HO.tup.injEq, L2.HO.dK.injEq, exists_eq_left', exists_eq_left, exists_eq_right, exists_eq', exists_eq, exists_and_left, exists_and_right, reduceIte, Bool.false_eq_true, Bool.not_true, Bool.not_false,
  L2.tSeq, L2.tIfS, L2.tRet, L2.tRetN, L2.tNext, L2.tAsg, L2.gName, L2.tVar, L2.tC, L2.tCons, L2.tNil, L2.tCB, L2.tOp, L2.tUn, L2.tTup, L2.tLst, L2.tB, L2.tOr, L2.tAnd, L2.tNot, L2.tAndV, L2.tOrV, L2.tNotV, L2.tIf, L2.tTest, L2.tChain, L2.rI, L2.rI0, L2.rU, L2.tDrop, L2.tNever, L2.tCall, L2.tMeth, L2.tMake, L2.rGcd, L2.tFld, L2.sFld, L2.sFldAug, Mx.sFldA, Mx.sFldAugA, L2.rAdd, L2.rSub, L2.rEq, L2.rNe, L2.tDGet, L2.tDIn, L2.tDNotIn, L2.sDPut,
  Mx.isi_int_bool, Mx.isi_int_int, Mx.isi_int_tuple, Mx.isi_int_list, Mx.isi_int_str, Mx.scal_int, Mx.scal_str, Mx.scal_bl, Mx.ofString_inj, Mx.ofString_beq, Mx.lk_cons, Mx.pf_nil, Mx.pf_cons, Mx.sz1, Mx.sz2, List.lookup_nil, String.reduceEq, decide_true, decide_false, decide_eq_true_eq, Int.natAbs_natCast, L2.upd_same, L2.upd_upd, L2.cxOf, L2.gSub, L2.tPar, L2.gCons, L2.gNil, Mx.optV, Mx.fsM, L2.tSl, L2.tPart, L2.rSlL])
set_option hygiene false in
local macro_rules | `(tactic| walk_at "rds") => `(tactic| try simp only [L2.start, List.map_cons, List.map_nil, List.length_cons, List.length_nil, Nat.reduceAdd, Nat.reduceSub, Nat.reduceLT, Nat.reduceLeDiff, List.replicate_succ, List.replicate_zero, List.append_nil, List.nil_append, List.cons_append, List.set_cons_zero, List.set_cons_succ, List.getElem?_cons_zero, List.getElem?_cons_succ,
  Option.some.injEq, List.cons.injEq, and_true, true_and, and_assoc, reduceCtorEq, L2.V.int.injEq, L2.V.ref.injEq, L2.V.bl.injEq, L2.V.str.injEq, L2.V.ty.injEq, L2.HO.ins.injEq, L2.HO.lst.injEq, L2.HO.tup.injEq, L2.HO.dK.injEq, exists_eq_left', exists_eq_left, exists_eq_right, exists_eq', exists_eq, exists_and_left, exists_and_right, reduceIte, Bool.false_eq_true, Bool.not_true, Bool.not_false,
  L2.tSeq, L2.tIfS, L2.tRet, L2.tRetN, L2.tNext, L2.tAsg, L2.gName, L2.tVar, L2.tC, L2.tCons, L2.tNil, L2.tCB, L2.tOp, L2.tUn, L2.tTup, L2.tLst, L2.tB, L2.tOr, L2.tAnd, L2.tNot, L2.tAndV, L2.tOrV, L2.tNotV, L2.tIf, L2.tTest, L2.tChain, L2.rI, L2.rI0, L2.rU, L2.tDrop, L2.tNever, L2.tCall, L2.tMeth, L2.tMake, L2.rGcd, L2.tFld, L2.sFld, L2.sFldAug, Mx.sFldA, Mx.sFldAugA, L2.rAdd, L2.rSub, L2.rEq, L2.rNe, L2.tDGet, L2.tDIn, L2.tDNotIn, L2.sDPut,
  Mx.isi_int_bool, Mx.isi_int_int, Mx.isi_int_tuple, Mx.isi_int_list, Mx.isi_int_str, Mx.scal_int, Mx.scal_str, Mx.scal_bl, Mx.ofString_inj, Mx.ofString_beq, Mx.lk_cons, Mx.pf_nil, Mx.pf_cons, Mx.sz1, Mx.sz2, List.lookup_nil, String.reduceEq, decide_true, decide_false, decide_eq_true_eq, Int.natAbs_natCast, L2.upd_same, L2.upd_upd, L2.cxOf, L2.gSub, L2.tPar, L2.gCons, L2.gNil, Mx.optV, Mx.fsM, L2.tSl, L2.tPart, L2.rSlL, *])

section
variable {P : Program} {w : World} {K : PySem.W.Frag} {mg : Str → Option Value} {base : Heap} {cs : Cs}
theorem le_ok (G : G16 P w K mg base cs) {f : Addr} {cdv : Value} {A0 : Around} {outer : List Env} {s0 : Shared} {H : Hp} {E : XK} (hr : Room 9 (A0.deeper (PyProof.Rows.envOfC "law" (defScope s_law) s0.heap.objs.size f cdv))) :
    ∃ t, PS (XL P w K mg base f cdv A0 outer s0 H E) ((ifThen (bS.getD 0 pass0d)).getD 2 pass0d) t ∧ ∀ (D : Ends) (Hb H1 : Hp) (m d k : Nat → Addr) (soft pn pb : Int) (xs : List Int) (tt : Nat) (A : Nat → VA) (v : Nat → VoiceS) (L : LoudS) (n : Nat) (ml : Addr) (l b : Int) (x0 x1 x2 x3 x4 x5 x7 x8 x9 x10 x12 x13 x14 x16 x17 x18 x19 x20 : Option V),
      Z16 K cs Hb H1 m d k soft pn pb xs tt A v L n → H1 ml = some (.lst (ms3 m)) → Hb ml ≠ none → 0 ≤ l → l ≤ 64 → 1 ≤ b → b ≤ 64 → 0 < n → n ≤ 6200 → (∀ b, H1 b = none → Hb b = none) →
      (∀ H2 y7 v', Z16 K cs Hb H2 m d k soft pn pb xs tt A v' (L.to l b) (n + 6) → H2 ml = some (.lst (ms3 m)) → (∀ a o, H1 a = some o → (∀ j, j < 3 → a ∉ (mx3 soft tt A v j).foot (m j) (d j) (k j)) → H2 a = some o) → Stp ((List.range 3).flatMap fun j => (mx3 soft tt A v j).foot (m j) (d j) (k j)) H1 H2 → D.nx [x0, x1, x2, x3, x4, x5, some (.ref ml), y7, x8, x9, x10, some (.int b), x12, x13, x14, some (.int l), x16, x17, x18, x19, x20] H2) →
      t D [x0, x1, x2, x3, x4, x5, some (.ref ml), x7, x8, x9, x10, some (.int b), x12, x13, x14, some (.int l), x16, x17, x18, x19, x20] H1 := by
  have nd := sc_law.nd
  have r4 := hr.mono (show 4 ≤ 9 by decide)
  refine ⟨_, (ps_for PassesOwn.never rfl (pi_list (pv 6)) (pg_name (i := 7) nd rfl (.inl rfl))
    (pss_one (ps_expr (p_meth G.lead r4 (pv 7) (pa_cons pe_int (pa_cons (pv 15) (pa_cons (pv 11) pa_nil))))))), ?_⟩
  intro D Hb H1 m d k soft pn pb xs tt A v L n ml l b x0 x1 x2 x3 x4 x5 x7 x8 x9 x10 x12 x13 x14 x16 x17 x18 x19 x20 hZ hml hmlb l0 l1 b0 b1 n0 n1 hfr q
  have hfoot : ∀ j, j < 3 → ∀ c ∈ (mx3 soft tt A v j).foot (m j) (d j) (k j), c ∈ (List.range 3).flatMap fun j => (mx3 soft tt A v j).foot (m j) (d j) (k j) := fun j hj c hc => List.mem_flatMap.mpr ⟨j, List.mem_range.mpr hj, hc⟩
  have hmlf : ml ∉ (List.range 3).flatMap fun j => (mx3 soft tt A v j).foot (m j) (d j) (k j) := fun z => by
    obtain ⟨j, hj, hc⟩ := List.mem_flatMap.mp z
    exact hmlb (hZ.m3.fr j (List.mem_range.mp hj) ml hc)
  walk_at "rd"
  refine ⟨_, rfl, ml, rfl, ⟨_, .inl (.inl hml)⟩, ?_⟩
  refine for_list (K := K) (a := ml) (xs := ms3 m) (fun i σ H2 => ∃ y7, σ = [x0, x1, x2, x3, x4, x5, some (.ref ml), y7, x8, x9, x10, some (.int b), x12, x13, x14, some (.int l), x16, x17, x18, x19, x20] ∧ M3 K cs Hb H2 m d k (mid (mx3 soft tt A v) (mx3 soft tt A (fun j => { v j with loud := (v j).loud.to l b })) i) ∧ Stp ((List.range 3).flatMap fun j => (mx3 soft tt A v j).foot (m j) (d j) (k j)) H1 H2)
    ⟨_, rfl, hZ.m3.re fun j _ => if_neg (Nat.not_lt_zero j), Stp.refl.sub (by simp)⟩ (fun i σ H2 _ h => ?_) (fun i x σ H2 hx h => ?_) (fun σ H2 h => ?_)
  · obtain ⟨_, _, _, s2⟩ := h
    exact .inl (.inl (s2.keep _ _ hml hmlf))
  · obtain ⟨y7, rfl, hM2, s2⟩ := h
    obtain ⟨hi, rfl⟩ := ms3_at hx
    have hMi := hM2.at_ i hi
    rw [mid_at] at hMi
    obtain ⟨dxm, hm⟩ := id hMi.ob
    have hV := hZ.ok i hi
    have hRb : Rb n (v i).loud.level := by
      obtain ⟨D, a, b, hI, hD⟩ := hV.loud
      exact (hI.rb hD).1
    walk_at "rd"
    refine ⟨dxm, _, hm, by walk_at "rd", m i, d i, k i, mx3 soft tt A v i, (1, A i, v i), l, b, n, rfl, hMi, List.mem_cons_self, by show (0 : Int) ≤ 1; decide, by show (1 : Int) ≤ 5; decide, l0, l1, b0, b1, hRb, n0, by omega, fun H3 hM3 s3 => ?_⟩
    have hM3' : MixAt K cs H3 (m i) (d i) (k i) (mx3 soft tt A (fun j => { v j with loud := (v j).loud.to l b }) i) := by
      have := hM3
      unfold mx3 at this
      simp only [set1] at this
      exact this
    have hA : ∀ c ∈ (A i).foot, c ∈ (mx3 soft tt A v i).foot (m i) (d i) (k i) := fun c hc => by rw [foot3]; simp [hc]
    have hM4 := hM2.step hi s3 (fun c hc => .inl (by rw [mid_at]; exact hA c hc)) hM3' (fun c hc => .inl (by rw [foot3] at hc; rw [mid_at, foot3]; exact hc)) (fun c hc => hfr c (s2.free hc fun z => by
      obtain ⟨j, hj, hcj⟩ := List.mem_flatMap.mp z
      have := hM2.at_ j (List.mem_range.mp hj)
      refine this.some c ?_ hc
      unfold mid
      split <;> · rw [foot3]; rw [foot3] at hcj; exact hcj))
    refine ⟨hM4.re fun j _ => mid_put _ _ _ _, (s2.trans s3).sub fun c hc => ?_⟩
    rcases List.mem_append.mp hc with z | z
    · exact z
    · exact hfoot i hi c (hA c z)
  · obtain ⟨y7, rfl, hM2, s2⟩ := h
    rw [ms3_len] at hM2
    refine q H2 y7 (fun j => { v j with loud := (v j).loud.to l b }) ⟨hM2.re fun j hj => (if_pos hj).symm, hZ.ln, fun j hj => ?_, ?_, ?_, ?_, fun j hj => ?_⟩ (s2.keep _ _ hml hmlf) (fun a o ha hn => s2.keep _ _ ha fun z => ?_) s2
    · show (v j).loud.to l b = _
      rw [hZ.ld j hj]
    · exact ⟨hZ.w0.he, hZ.w0.H, hZ.w0.R, hZ.w0.O⟩
    · exact ⟨hZ.w1.he, hZ.w1.H, hZ.w1.R, hZ.w1.O⟩
    · exact ⟨hZ.w2.he, hZ.w2.w, hZ.w2.p⟩
    · exact ((hZ.ok j hj).mono (Nat.le_add_right n 6)).louded ((hZ.ok j hj).loud.to l0 l1 b0 b1)
    · obtain ⟨j, hj, hcj⟩ := List.mem_flatMap.mp z
      exact hn j (List.mem_range.mp hj) hcj
end
end Mx

namespace Mx
open PySem L2
theorem beat1 {so : Int} {t : Nat} {A : VA} {v : VoiceS} {ys : List Int} (hpm : ys.Perm [1]) (hl : v.line.lacks (t : Int) = false) : (⟨so, t, [(1, A, v)], []⟩ : MixS).beat ys = ⟨so, (t + 1 : Nat), [(1, A, v.give t so)], []⟩ ∧ sumOf (⟨so, t, [(1, A, v)], []⟩ : MixS) ys = (v.give t so).part := by
  have e : ys = [1] := List.perm_singleton.mp hpm
  subst e
  constructor
  · unfold MixS.beat lackN
    simp [hl, MixS.step]
  · show partOf _ 1 + 0 = _
    have := partOf_mem (s := (⟨so, t, [(1, A, v)], []⟩ : MixS)) (by simp) (e := (1, A, v)) List.mem_cons_self
    rw [show (1, A, v).1 = (1 : Int) from rfl] at this
    rw [this]
    grind
set_option hygiene false in
local macro_rules | `(tactic| walk_at "rd") => `(tactic| try simp only [L2.start, List.map_cons, List.map_nil, List.length_cons, List.length_nil, Nat.reduceAdd, Nat.reduceSub, Nat.reduceLT, Nat.reduceLeDiff, List.replicate_succ, List.replicate_zero, List.append_nil, List.nil_append, List.cons_append, List.set_cons_zero, List.set_cons_succ, List.getElem?_cons_zero, List.getElem?_cons_succ,
  Option.some.injEq, List.cons.injEq, and_true, true_and, and_assoc, reduceCtorEq, L2.V.int.injEq, L2.V.ref.injEq, L2.V.bl.injEq, L2.V.str.injEq, L2.V.ty.injEq, L2.HO.ins.injEq, L2.HO.lst.injEq, L2.HO.tup.injEq, L2.HO.dK.injEq, exists_eq_left', exists_eq_left, exists_eq_right, exists_eq', exists_eq, exists_and_left, exists_and_right, reduceIte, Bool.false_eq_true, Bool.not_true, Bool.not_false,
  L2.tSeq, L2.tIfS, L2.tRet, L2.tRetN, L2.tNext, L2.tAsg, L2.gName, L2.tVar, L2.tC, L2.tCons, L2.tNil, L2.tCB, L2.tOp, L2.tUn, L2.tTup, L2.tLst, L2.tB, L2.tOr, L2.tAnd, L2.tNot, L2.tAndV, L2.tOrV, L2.tNotV, L2.tIf, L2.tTest, L2.tChain, L2.rI, L2.rI0, L2.rU, L2.tDrop, L2.tNever, L2.tCall, L2.tMeth, L2.tMake, L2.rGcd, L2.tFld, L2.sFld, L2.sFldAug, Mx.sFldA, Mx.sFldAugA, L2.rAdd, L2.rSub, L2.rEq, L2.rNe, L2.tDGet, L2.tDIn, L2.tDNotIn, L2.sDPut,
  Mx.isi_int_bool, Mx.isi_int_int, Mx.isi_int_tuple, Mx.isi_int_list, Mx.isi_int_str, Mx.scal_int, Mx.scal_str, Mx.scal_bl, Mx.ofString_inj, Mx.ofString_beq, Mx.lk_cons, Mx.pf_nil, Mx.pf_cons, Mx.sz1, Mx.sz2, List.lookup_nil, String.reduceEq, decide_true, decide_false, decide_eq_true_eq, Int.natAbs_natCast, L2.upd_same, L2.upd_upd, L2.cxOf, L2.gSub, L2.tPar, L2.gCons, L2.gNil, Mx.optV, Mx.fsM, L2.tSl, L2.tPart, L2.rSlL])
set_option hygiene false in
local macro_rules | `(tactic| walk_at "rds") => `(tactic| try simp only [L2.start, List.map_cons, List.map_nil, List.length_cons, List.length_nil, Nat.reduceAdd, Nat.reduceSub, Nat.reduceLT, Nat.reduceLeDiff, List.replicate_succ, List.replicate_zero, List.append_nil, List.nil_append, List.cons_append, List.set_cons_zero, List.set_cons_succ, List.getElem?_cons_zero, List.getElem?_cons_succ,
  Option.some.injEq, List.cons.injEq, and_true, true_and, and_assoc, reduceCtorEq, L2.V.int.injEq, L2.V.ref.injEq, L2.V.bl.injEq, L2.V.str.injEq, L2.V.ty.injEq, L2.HO.ins.injEq, L2.HO.lst.injEq, L2.HO.tup.injEq, L2.HO.dK.injEq, exists_eq_left', exists_eq_left, exists_eq_right, exists_eq', exists_eq, exists_and_left, exists_and_right, reduceIte, Bool.false_eq_true, Bool.not_true, Bool.not_false,
  L2.tSeq, L2.tIfS, L2.tRet, L2.tRetN, L2.tNext, L2.tAsg, L2.gName, L2.tVar, L2.tC, L2.tCons, L2.tNil, L2.tCB, L2.tOp, L2.tUn, L2.tTup, L2.tLst, L2.tB, L2.tOr, L2.tAnd, L2.tNot, L2.tAndV, L2.tOrV, L2.tNotV, L2.tIf, L2.tTest, L2.tChain, L2.rI, L2.rI0, L2.rU, L2.tDrop, L2.tNever, L2.tCall, L2.tMeth, L2.tMake, L2.rGcd, L2.tFld, L2.sFld, L2.sFldAug, Mx.sFldA, Mx.sFldAugA, L2.rAdd, L2.rSub, L2.rEq, L2.rNe, L2.tDGet, L2.tDIn, L2.tDNotIn, L2.sDPut,
  Mx.isi_int_bool, Mx.isi_int_int, Mx.isi_int_tuple, Mx.isi_int_list, Mx.isi_int_str, Mx.scal_int, Mx.scal_str, Mx.scal_bl, Mx.ofString_inj, Mx.ofString_beq, Mx.lk_cons, Mx.pf_nil, Mx.pf_cons, Mx.sz1, Mx.sz2, List.lookup_nil, String.reduceEq, decide_true, decide_false, decide_eq_true_eq, Int.natAbs_natCast, L2.upd_same, L2.upd_upd, L2.cxOf, L2.gSub, L2.tPar, L2.gCons, L2.gNil, Mx.optV, Mx.fsM, L2.tSl, L2.tPart, L2.rSlL, *])

section
variable {P : Program} {w : World} {K : PySem.W.Frag} {mg : Str → Option Value} {base : Heap} {cs : Cs}
theorem fo_ok (G : G16 P w K mg base cs) {f : Addr} {cdv : Value} {A0 : Around} {outer : List Env} {s0 : Shared} {H : Hp} {E : XK} (hr : Room 9 (A0.deeper (PyProof.Rows.envOfC "law" (defScope s_law) s0.heap.objs.size f cdv))) :
    ∃ t, PS (XL P w K mg base f cdv A0 outer s0 H E) (bS.getD 2 pass0d) t ∧ ∀ (D : Ends) (Hb H1 : Hp) (m d k : Nat → Addr) (soft pn pb : Int) (xs : List Int) (tt : Nat) (A : Nat → VA) (v : Nat → VoiceS) (L : LoudS) (n : Nat) (ml : Addr) (x0 x1 x2 x3 x4 x5 x7 x8 x9 x10 x11 x12 x13 x14 x15 x16 x17 x18 x19 x20 : Option V),
      Z16 K cs Hb H1 m d k soft pn pb xs tt A v L n → H1 ml = some (.lst (ms3 m)) → Hb ml ≠ none → 1 ≤ soft → soft ≤ 16 → 0 < n → n ≤ 6200 → (∀ b, H1 b = none → Hb b = none) → xs.length = 1000 → 1 ≤ pn → 1 ≤ pb → (tt : Int) * pn / pb ≤ 998 →
      (∀ H2 D0 ys, Z16 K cs Hb H2 m d k soft pn pb xs (tt + 1) A (fun j => (v j).give tt (so3 soft j)) L.on n → H2 ml = some (.lst (ms3 m)) → H2 D0 = some (.lst ys) → ys.length = 3 → (∀ j, j < 3 → ∃ y, ys[j]? = some y ∧ IsQ K H2 y ((v j).give tt (so3 soft j)).part) → H1 D0 = none → Stp ((List.range 3).flatMap fun j => (mx3 soft tt A v j).foot (m j) (d j) (k j)) H1 H2 → D.nx [x0, x1, x2, x3, x4, x5, some (.ref ml), x7, x8, x9, x10, x11, x12, x13, x14, x15, some (.ref D0), x17, x18, x19, x20] H2) →
      t D [x0, x1, x2, x3, x4, x5, some (.ref ml), x7, x8, x9, x10, x11, x12, x13, x14, x15, x16, x17, x18, x19, x20] H1 := by
  have nd := sc_law.nd
  have r8 := hr.mono (show 8 ≤ 9 by decide)
  refine ⟨_, (ps_setLc (i := 16) (own := [("_law_mixer", 7)]) (te := tMeth cs.M "beat" (sp_Mixer_beatX K cs) [] E0 (tVar 7) tNil) rfl nd rfl rfl (sw_true rfl rfl rfl (by decide +kernel)) (pi_list (pv 6)) (blkOk_by (N := N16) (sc := defScope s_law) (by decide +kernel)) (fun _ _ _ _ _ => pg_name (i := 7) nd rfl (.inl rfl)) (fun _ _ _ _ _ => pts_nil) (fun _ _ _ _ _ => p_meth0 G.beat r8 (pv 7))), ?_⟩
  intro D Hb H1 m d k soft pn pb xs tt A v L n ml x0 x1 x2 x3 x4 x5 x7 x8 x9 x10 x11 x12 x13 x14 x15 x16 x17 x18 x19 x20 hZ hml hmlb so1 so2 n0 n1 hfr hxl pn1 pb1 htt q
  walk_at "rd"
  have hmlf : ml ∉ (List.range 3).flatMap fun j => (mx3 soft tt A v j).foot (m j) (d j) (k j) := fun z => by
    obtain ⟨j, hj, hc⟩ := List.mem_flatMap.mp z
    exact hmlb (hZ.m3.fr j (List.mem_range.mp hj) ml hc)
  have hfoot : ∀ j, j < 3 → ∀ c ∈ (mx3 soft tt A v j).foot (m j) (d j) (k j), c ∈ (List.range 3).flatMap fun j => (mx3 soft tt A v j).foot (m j) (d j) (k j) := fun j hj c hc => List.mem_flatMap.mpr ⟨j, List.mem_range.mpr hj, hc⟩
  have hsj : ∀ j, 1 ≤ so3 soft j ∧ so3 soft j ≤ 16 := fun j => by unfold so3; split <;> omega
  refine ⟨_, rfl, ml, rfl, ⟨_, .inl (.inl hml)⟩, fun D0 hD0 => ?_⟩
  have hDf : D0 ∉ (List.range 3).flatMap fun j => (mx3 soft tt A v j).foot (m j) (d j) (k j) := fun z => by
    obtain ⟨j, hj, hc⟩ := List.mem_flatMap.mp z
    exact (hZ.m3.at_ j (List.mem_range.mp hj)).some D0 hc hD0
  have hDm : D0 ≠ ml := fun z => by rw [z, hml] at hD0; cases hD0
  have s0 := Stp.new (o := .lst []) hD0
  refine lc_it (walk_list (K := K) (a := ml) (xs := ms3 m)) (fun i H2 => M3 K cs Hb H2 m d k (mid (mx3 soft tt A v) (mx3 soft ((tt + 1 : Nat) : Int) A (fun j => (v j).give tt (so3 soft j))) i) ∧ Stp ((List.range 3).flatMap fun j => (mx3 soft tt A v j).foot (m j) (d j) (k j)) H1 H2 ∧ ∃ ys, H2 D0 = some (.lst ys) ∧ ys.length = i ∧ ∀ j, j < i → ∃ y, ys[j]? = some y ∧ IsQ K H2 y ((v j).give tt (so3 soft j)).part)
    ⟨(hZ.m3.re fun j _ => if_neg (Nat.not_lt_zero j)).st0 s0, s0.sub (by simp), [], upd_same, rfl, fun j hj => absurd hj (Nat.not_lt_zero j)⟩ (fun i H2 _ h => .inl (.inl (h.2.1.keep _ _ hml hmlf))) (fun i x H2 H2' hi h hx => ?_) (fun H2 h => ?_)
  · obtain ⟨rfl, hx⟩ := hx
    obtain ⟨hM2, s2, ys, hD2, hyl, hys⟩ := h
    obtain ⟨hi, rfl⟩ := ms3_at hx
    refine ⟨wipe1, ?_⟩
    simp only [tYes, reduceIte]
    have hMi := hM2.at_ i hi
    rw [mid_at] at hMi
    obtain ⟨dxm, hm⟩ := id hMi.ob
    have hV := hZ.ok i hi
    have hk := (((hZ.ln i hi).ready (t := (tt : Int)) hxl pb1 pn1 (by omega) htt)).2
    refine ⟨_, rfl, m i, dxm, _, rfl, hm, by walk_at "rd", m i, d i, k i, mx3 soft tt A v i, fun _ => n, rfl, hMi, ⟨(hsj i).1, (hsj i).2, fun e he => n0, fun e he => by rw [List.mem_singleton.mp he]; exact hV, fun e he => by rw [List.mem_singleton.mp he]; exact ⟨by show (0 : Int) ≤ 1; decide, by show (1 : Int) ≤ 5; decide⟩, by show 1 ≤ 6; decide, by show n + 25 + 0 < 6400; omega, by show 0 + 1 ≤ 100000; decide⟩, fun r ys1 H3 hpm hpw hq hM3 s3 => ?_⟩
    obtain ⟨eb, es⟩ := beat1 (so := so3 soft i) (t := tt) (A := A i) (v := v i) (ys := ys1) hpm hk
    have hM3' : MixAt K cs H3 (m i) (d i) (k i) (mx3 soft ((tt + 1 : Nat) : Int) A (fun j => (v j).give tt (so3 soft j)) i) := by
      have := hM3
      rw [show (mx3 soft tt A v i).beat ys1 = _ from eb] at this
      exact this
    rw [show sumOf (mx3 soft tt A v i) ys1 = _ from es] at hq
    have hD3 := s3.keep _ _ hD2 fun z => hDf (hfoot i hi D0 z)
    have sP := Stp.put (o := .lst (ys ++ [r])) hD3 (fun xs z => nomatch z)
    have hM4 := hM2.step hi s3 (fun c hc => .inl (by rw [mid_at]; exact hc)) hM3' (fun c hc => .inl (by rw [foot3] at hc; rw [mid_at, foot3]; exact hc)) (fun c hc => hfr c (s2.free hc fun z => by
      obtain ⟨j, hj, hcj⟩ := List.mem_flatMap.mp z
      have := hM2.at_ j (List.mem_range.mp hj)
      refine this.some c ?_ hc
      unfold mid
      split <;> · rw [foot3]; rw [foot3] at hcj; exact hcj))
    have hM5 := (hM4.re fun j _ => mid_put (mx3 soft tt A v) (mx3 soft ((tt + 1 : Nat) : Int) A (fun j => (v j).give tt (so3 soft j))) i j)
    refine ⟨ys, hD3, ?_, hM5.st sP fun j hj c hc z => ?_, ?_, ys ++ [r], upd_same, by rw [List.length_append, hyl]; rfl, fun j hj => ?_⟩
    · exact Nat.lt_of_le_of_lt (show ys.length ≤ 3 by omega) (by decide)
    · rw [List.mem_singleton.mp z] at hc
      refine hDf (hfoot j hj D0 ?_)
      unfold mid at hc
      split at hc <;> · rw [foot3] at hc; rw [foot3]; exact hc
    · refine ((s2.trans s3).trans sP).subN fun c hc => ?_
      simp only [List.mem_append, List.mem_singleton] at hc
      rcases hc with (z | z) | z
      · exact .inl z
      · exact .inl (hfoot i hi c z)
      · exact .inr (z ▸ hD0)
    · by_cases e : j < i
      · obtain ⟨y, hy, hyq⟩ := hys j e
        exact ⟨y, by rw [List.getElem?_append_left (by omega)]; exact hy, (hyq.st s3).st sP⟩
      · have : j = i := by omega
        subst this
        exact ⟨r, by rw [List.getElem?_append_right (by omega), hyl, Nat.sub_self]; rfl, hq.st sP⟩
  · obtain ⟨hM2, s2, ys, hD2, hyl, hys⟩ := h
    rw [ms3_len] at hM2 hyl hys
    have r0 : ∀ j, j < 3 → (v j).line.ready (tt : Int) = true := fun j hj => ((hZ.ln j hj).ready (t := (tt : Int)) hxl pb1 pn1 (by omega) htt).1
    refine q H2 D0 ys ⟨hM2.re fun j hj => (if_pos hj).symm, fun j hj => ?_, fun j hj => ?_, ?_, ?_, ?_, fun j hj => ?_⟩ (s2.keep _ _ hml hmlf) hD2 hyl hys hD0 s2
    · show LF xs pn pb ((v j).give tt (so3 soft j)).line
      rw [give_line]
      exact hZ.ln j hj
    · show ((v j).give tt (so3 soft j)).loud = L.on
      rw [← hZ.ld j hj]
      rcases (show j = 0 ∨ j = 1 ∨ j = 2 by omega) with rfl | rfl | rfl
      · exact (hZ.w0.give (Int.le_refl 1) (r0 0 hj)).2.2.2.1
      · exact (hZ.w1.give so1 (r0 1 hj)).2.2.2.1
      · exact (hZ.w2.give _ _).2.1
    · exact (hZ.w0.give (Int.le_refl 1) (r0 0 (by decide))).1
    · exact (hZ.w1.give so1 (r0 1 (by decide))).1
    · exact (hZ.w2.give _ _).1
    · exact (hZ.ok j hj).give (hsj j).1 (hsj j).2 _
end
end Mx

namespace Mx
open PySem L2
set_option hygiene false in
local macro_rules | `(tactic| walk_at "rd") => `(tactic| try simp only [L2.start, List.map_cons, List.map_nil, List.length_cons, List.length_nil, Nat.reduceAdd, Nat.reduceSub, Nat.reduceLT, Nat.reduceLeDiff, List.replicate_succ, List.replicate_zero, List.append_nil, List.nil_append, List.cons_append, List.set_cons_zero, List.set_cons_succ, List.getElem?_cons_zero, List.getElem?_cons_succ,
  Option.some.injEq, List.cons.injEq, and_true, true_and, and_assoc, reduceCtorEq, L2.V.int.injEq, L2.V.ref.injEq, L2.V.bl.injEq, L2.V.str.injEq, L2.V.ty.injEq, L2.HO.ins.injEq, L2.HO.lst.injEq, L2.HO.tup.injEq, L2.HO.dK.injEq, exists_eq_left', exists_eq_left, exists_eq_right, exists_eq', exists_eq, exists_and_left, exists_and_right, reduceIte, Bool.false_eq_true, Bool.not_true, Bool.not_false,
  L2.tSeq, L2.tIfS, L2.tRet, L2.tRetN, L2.tNext, L2.tAsg, L2.gName, L2.tVar, L2.tC, L2.tCons, L2.tNil, L2.tCB, L2.tOp, L2.tUn, L2.tTup, L2.tLst, L2.tB, L2.tOr, L2.tAnd, L2.tNot, L2.tAndV, L2.tOrV, L2.tNotV, L2.tIf, L2.tTest, L2.tChain, L2.rI, L2.rI0, L2.rU, L2.tDrop, L2.tNever, L2.tCall, L2.tMeth, L2.tMake, L2.rGcd, L2.tFld, L2.sFld, L2.sFldAug, Mx.sFldA, Mx.sFldAugA, L2.rAdd, L2.rSub, L2.rEq, L2.rNe, L2.tDGet, L2.tDIn, L2.tDNotIn, L2.sDPut,
  Mx.isi_int_bool, Mx.isi_int_int, Mx.isi_int_tuple, Mx.isi_int_list, Mx.isi_int_str, Mx.scal_int, Mx.scal_str, Mx.scal_bl, Mx.ofString_inj, Mx.ofString_beq, Mx.lk_cons, Mx.pf_nil, Mx.pf_cons, Mx.sz1, Mx.sz2, List.lookup_nil, String.reduceEq, decide_true, decide_false, decide_eq_true_eq, Int.natAbs_natCast, L2.upd_same, L2.upd_upd, L2.cxOf, L2.gSub, L2.tPar, L2.gCons, L2.gNil, Mx.optV, Mx.fsM, L2.tSl, L2.tPart, L2.rSlL])
set_option hygiene false in
local macro_rules | `(tactic| walk_at "rds") => `(tactic| try simp only [L2.start, List.map_cons, List.map_nil, List.length_cons, List.length_nil, Nat.reduceAdd, Nat.reduceSub, Nat.reduceLT, Nat.reduceLeDiff, List.replicate_succ, List.replicate_zero, List.append_nil, List.nil_append, List.cons_append, List.set_cons_zero, List.set_cons_succ, List.getElem?_cons_zero, List.getElem?_cons_succ,
  Option.some.injEq, List.cons.injEq, and_true, true_and, and_assoc, reduceCtorEq, L2.V.int.injEq, L2.V.ref.injEq, L2.V.bl.injEq, L2.V.str.injEq, L2.V.ty.injEq, L2.HO.ins.injEq, L2.HO.lst.injEq, L2.HO.tup.injEq, L2.HO.dK.injEq, exists_eq_left', exists_eq_left, exists_eq_right, exists_eq', exists_eq, exists_and_left, exists_and_right, reduceIte, Bool.false_eq_true, Bool.not_true, Bool.not_false,
  L2.tSeq, L2.tIfS, L2.tRet, L2.tRetN, L2.tNext, L2.tAsg, L2.gName, L2.tVar, L2.tC, L2.tCons, L2.tNil, L2.tCB, L2.tOp, L2.tUn, L2.tTup, L2.tLst, L2.tB, L2.tOr, L2.tAnd, L2.tNot, L2.tAndV, L2.tOrV, L2.tNotV, L2.tIf, L2.tTest, L2.tChain, L2.rI, L2.rI0, L2.rU, L2.tDrop, L2.tNever, L2.tCall, L2.tMeth, L2.tMake, L2.rGcd, L2.tFld, L2.sFld, L2.sFldAug, Mx.sFldA, Mx.sFldAugA, L2.rAdd, L2.rSub, L2.rEq, L2.rNe, L2.tDGet, L2.tDIn, L2.tDNotIn, L2.sDPut,
  Mx.isi_int_bool, Mx.isi_int_int, Mx.isi_int_tuple, Mx.isi_int_list, Mx.isi_int_str, Mx.scal_int, Mx.scal_str, Mx.scal_bl, Mx.ofString_inj, Mx.ofString_beq, Mx.lk_cons, Mx.pf_nil, Mx.pf_cons, Mx.sz1, Mx.sz2, List.lookup_nil, String.reduceEq, decide_true, decide_false, decide_eq_true_eq, Int.natAbs_natCast, L2.upd_same, L2.upd_upd, L2.cxOf, L2.gSub, L2.tPar, L2.gCons, L2.gNil, Mx.optV, Mx.fsM, L2.tSl, L2.tPart, L2.rSlL, *])

section
variable {P : Program} {w : World} {K : PySem.W.Frag} {mg : Str → Option Value} {base : Heap} {cs : Cs}
theorem ck_ok (B : Blt mg) (G : G16 P w K mg base cs) {f : Addr} {cdv : Value} {A0 : Around} {outer : List Env} {s0 : Shared} {H : Hp} {E : XK} (hr : Room 9 (A0.deeper (PyProof.Rows.envOfC "law" (defScope s_law) s0.heap.objs.size f cdv))) :
    ∃ t, PS (XL P w K mg base f cdv A0 outer s0 H E) (bS.getD 4 pass0d) t ∧ ∀ (D : Ends) (Hb H1 : Hp) (m d k : Nat → Addr) (soft pn pb : Int) (xs : List Int) (tt : Nat) (A : Nat → VA) (v : Nat → VoiceS) (L : LoudS) (n : Nat) (ml D0 : Addr) (dv : V) (ys : List V) (x0 x1 x2 x3 x4 x5 x7 x8 x9 x10 x11 x12 x13 x14 x15 x18 x19 x20 : Option V),
      Z16 K cs Hb H1 m d k soft pn pb xs tt A v L n → H1 ml = some (.lst (ms3 m)) → H1 D0 = some (.lst ys) → ys.length = 3 → (∀ j, j < 3 → ∃ y, ys[j]? = some y ∧ IsQ K H1 y (v j).part) → IsQ K H1 dv L.level → (v 0).word ≠ wH → (v 1).word ≠ wH →
      (∀ H2 y4 y15 y18 y19 y20, Stp [] H1 H2 → D.nx [x0, x1, x2, x3, y4, x5, some (.ref ml), x7, x8, x9, x10, x11, x12, x13, x14, y15, some (.ref D0), some dv, y18, y19, y20] H2) →
      t D [x0, x1, x2, x3, x4, x5, some (.ref ml), x7, x8, x9, x10, x11, x12, x13, x14, x15, some (.ref D0), some dv, x18, x19, x20] H1 := by
  have nd := sc_law.nd
  have r2 := hr.mono (show 2 ≤ 9 by decide)
  have hu64 : (A0.deeper (PyProof.Rows.envOfC "law" (defScope s_law) s0.heap.objs.size f cdv)).units + 64 < cLine := by
    have := hr.un
    omega
  refine ⟨_, (ps_for PassesOwn.never rfl (pi_range1 (by rfl) B.range (pa_cons pe_int pa_nil)) (pg_name (i := 4) nd rfl (.inl rfl))
    (pss_cons (ps_asg (pe_ix ix_list (p_meth0 G.states r2 (pe_ix ix_list (pv 6) (pv 4) (fun _ _ => rfl))) pe_int (fun _ _ => rfl)) (pg_tup rfl (pgs_cons (pg_name (i := 18) nd rfl (.inl rfl)) (pgs_cons (pg_name (i := 19) nd rfl (.inl rfl)) (pgs_cons (pg_name (i := 20) nd rfl (.inl rfl)) (pgs_cons (pg_name (i := 15) nd rfl (.inl rfl)) pgs_nil))))))
    (pss_one (ps_if (PW.pt (pw_or (pt_cmpR (op_neD hu64) (pv 15) (pv 17) (nomark _)) (pw_or (pt_cmpR (op_neD hu64) (pv 20) (pe_ix ix_list (pv 16) (pv 4) (fun _ _ => rfl)) (nomark _)) (pw_or1 (pt_cmpR op_ne (pe_cmpR op_eq (pv 19) pe_str (nomark _)) (pe_cmpR op_eq (pv 4) pe_int (nomark _)) (nomark _)))))) pss_never pss_nil)))), ?_⟩
  intro D Hb H1 m d k soft pn pb xs tt A v L n ml D0 dv ys x0 x1 x2 x3 x4 x5 x7 x8 x9 x10 x11 x12 x13 x14 x15 x18 x19 x20 hZ hml hD hyl hys hdv hw0 hw1 q
  walk_at "rd"
  refine ⟨3, rfl, by decide, by decide, ?_⟩
  refine for_range (lo := 0) (n := 3) (fun _ σ H2 => ∃ y4 y15 y18 y19 y20, σ = [x0, x1, x2, x3, y4, x5, some (.ref ml), x7, x8, x9, x10, x11, x12, x13, x14, y15, some (.ref D0), some dv, y18, y19, y20] ∧ Stp [] H1 H2)
    ⟨_, _, _, _, _, rfl, Stp.refl⟩ (fun i σ H2 hi h => ?_) (fun σ H2 h => ?_)
  · obtain ⟨y4, y15, y18, y19, y20, rfl, s2⟩ := h
    have hM2 := (hZ.m3.at_ i hi).st0 s2
    obtain ⟨dxm, hm⟩ := id hM2.ob
    have hml2 := s2.keep _ _ hml (by simp)
    have hD2 := s2.keep _ _ hD (by simp)
    obtain ⟨y, hy, hyq⟩ := hys i hi
    walk_at "rd"
    refine ixL (.inl (.inl hml2)) (x := .ref (m i)) (at_pos (by unfold ms3; rw [List.getElem?_map, List.getElem?_range hi]; rfl)) ?_
    refine ⟨m i, rfl, dxm, _, hm, by walk_at "rd", m i, d i, k i, mx3 soft tt A v i, rfl, hM2, by show 1 < 64; decide, fun p H3 ls ns1 hp s3 hpm hpw hl hpr => ?_⟩
    have en : ns1 = [1] := List.perm_singleton.mp hpm
    subst en
    obtain ⟨w0, els, e, he, _, hst⟩ : ∃ w0, ls = [w0] ∧ ∃ e ∈ (mx3 soft tt A v i).vs, e.1 = 1 ∧ IsSt K H3 w0 1 e.2.2 := by
      cases hpr with
      | cons h r => cases r; exact ⟨_, rfl, h⟩
    subst els
    have ee : e = (1, A i, v i) := List.mem_singleton.mp he
    subst ee
    obtain ⟨ta, pv, lv, rfl, h1, h2, h3⟩ := hst
    refine ixL (.inl (.inl hl)) (x := .ref ta) rfl ?_
    refine ⟨ta, _, rfl, .inl (.inl h1), rfl, _, _, rfl, _, _, rfl, _, _, rfl, _, _, rfl, rfl, ?_⟩
    simp only [List.set_cons_zero, List.set_cons_succ]
    have hLi : (v i).loud.level = L.level := by rw [hZ.ld i hi]
    have h3' : IsQ K H3 lv L.level := by rw [← hLi]; exact h3
    have hD3 := s3.keep _ _ hD2 (by simp)
    walk_at "rd"
    refine ne_T (EqT.q h3' ((hdv.st s2).st s3)) (by decide) ⟨_, rfl, ?_⟩
    rw [if_neg (by decide)]
    refine ixL (.inl (.inl hD3)) (x := y) (at_pos hy) ?_
    refine ne_T (EqT.q h2 ((hyq.st s2).st s3)) (by decide) ⟨_, rfl, ?_⟩
    rw [if_neg (by decide)]
    have ew : decide ((v i).word = Str.ofString "hushed") = decide (0 + (i : Int) = 2) := by
      rcases (show i = 0 ∨ i = 1 ∨ i = 2 by omega) with rfl | rfl | rfl
      · rw [decide_eq_false (show ¬ (v 0).word = Str.ofString "hushed" from hw0)]
        rfl
      · rw [decide_eq_false (show ¬ (v 1).word = Str.ofString "hushed" from hw1)]
        rfl
      · rw [decide_eq_true (show (v 2).word = Str.ofString "hushed" from hZ.w2.w)]
        rfl
    rw [ew, if_neg (by simp)]
    exact (s2.trans s3).sub (by simp)
  · obtain ⟨y4, y15, y18, y19, y20, rfl, s2⟩ := h
    exact q H2 _ _ _ _ _ s2
end
end Mx

namespace Mx
open PySem L2
def Rw (K : PySem.W.Frag) (Hb : Hp) (r sc : Addr) (ns : List Int) (H : Hp) : Prop := RowAt K H r sc ns ∧ Stp [r] Hb H
theorem row_there {K : PySem.W.Frag} {H : Hp} {r sc : Addr} {ns : List Int} (h : RowAt K H r sc ns) : H r ≠ none := by
  obtain ⟨_, _, _, _, _, z, _⟩ := h
  rw [z]
  exact nofun
theorem Rw.mv {K : PySem.W.Frag} {Hb H H' : Hp} {r sc : Addr} {ns : List Int} {F : List Addr} (h : Rw K Hb r sc ns H) (hb : RowAt K Hb r sc ns) (s : Stp F H H') (hF : ∀ b ∈ F, Hb b = none) : Rw K Hb r sc ns H' := by
  have sF : Stp [r] Hb H' := (h.2.trans s).subN fun b hb' => by
    rcases List.mem_append.mp hb' with z | z
    · exact .inl z
    · exact .inr (hF b z)
  exact ⟨row_mv hb h.1 s (fun z => row_there hb (hF r z)) sF, sF⟩
theorem Rw.st0 {K : PySem.W.Frag} {Hb H H' : Hp} {r sc : Addr} {ns : List Int} (h : Rw K Hb r sc ns H) (hb : RowAt K Hb r sc ns) (s : Stp [] H H') : Rw K Hb r sc ns H' := h.mv hb s (by simp)
theorem Rw.go {K : PySem.W.Frag} {Hb H H' : Hp} {r sc : Addr} {ns : List Int} (h : Rw K Hb r sc ns H) (h' : RowAt K H' r sc ns) (s : Stp [r] H H') : Rw K Hb r sc ns H' := ⟨h', (h.2.trans s).sub (by simp)⟩
theorem Rw.fr {K : PySem.W.Frag} {Hb H : Hp} {r sc : Addr} {ns : List Int} (h : Rw K Hb r sc ns H) {b : Addr} (hb : H b = none) : Hb b = none := by
  refine h.2.free hb fun z => ?_
  rw [List.mem_singleton.mp z] at hb
  exact row_there h.1 hb
end Mx

namespace Mx
open PySem L2
theorem ixT {K : PySem.W.Frag} {H : Hp} {a : Addr} {xs : List V} {i : Int} {x : V} {Q : VK} (h : TupAt K H a xs) (ha : atI xs i = some x) (q : Q x H) : rIxT K (.ref a) (.int i) H Q := ⟨a, _, i, x, rfl, rfl, h.sq, ha, q⟩
theorem Z16.mv {K : PySem.W.Frag} {cs : Cs} {Hb H H' : Hp} {m d k : Nat → Addr} {soft pn pb : Int} {xs : List Int} {t : Nat} {A : Nat → VA} {v : Nat → VoiceS} {L : LoudS} {n : Nat} (h : Z16 K cs Hb H m d k soft pn pb xs t A v L n) (g : M3 K cs Hb H' m d k (mx3 soft t A v)) : Z16 K cs Hb H' m d k soft pn pb xs t A v L n := ⟨g, h.ln, h.ld, h.w0, h.w1, h.w2, h.ok⟩
set_option hygiene false in
local macro_rules | `(tactic| walk_at "rd") => `(tactic| try simp only [L2.start, List.map_cons, List.map_nil, List.length_cons, List.length_nil, Nat.reduceAdd, Nat.reduceSub, Nat.reduceLT, Nat.reduceLeDiff, List.replicate_succ, List.replicate_zero, List.append_nil, List.nil_append, List.cons_append, List.set_cons_zero, List.set_cons_succ, List.getElem?_cons_zero, List.getElem?_cons_succ,
  Option.some.injEq, List.cons.injEq, and_true, true_and, and_assoc, reduceCtorEq, L2.V.int.injEq, L2.V.ref.injEq, L2.V.bl.injEq, L2.V.str.injEq, L2.V.ty.injEq, L2.HO.ins.injEq, L2.HO.lst.injEq, L2.HO.tup.injEq, L2.HO.dK.injEq, exists_eq_left', exists_eq_left, exists_eq_right, exists_eq', exists_eq, exists_and_left, exists_and_right, reduceIte, Bool.false_eq_true, Bool.not_true, Bool.not_false,
  L2.tSeq, L2.tIfS, L2.tRet, L2.tRetN, L2.tNext, L2.tAsg, L2.gName, L2.tVar, L2.tC, L2.tCons, L2.tNil, L2.tCB, L2.tOp, L2.tUn, L2.tTup, L2.tLst, L2.tB, L2.tOr, L2.tAnd, L2.tNot, L2.tAndV, L2.tOrV, L2.tNotV, L2.tIf, L2.tTest, L2.tChain, L2.rI, L2.rI0, L2.rU, L2.tDrop, L2.tNever, L2.tCall, L2.tMeth, L2.tMake, L2.rGcd, L2.tFld, L2.sFld, L2.sFldAug, Mx.sFldA, Mx.sFldAugA, L2.rAdd, L2.rSub, L2.rEq, L2.rNe, L2.tDGet, L2.tDIn, L2.tDNotIn, L2.sDPut,
  Mx.isi_int_bool, Mx.isi_int_int, Mx.isi_int_tuple, Mx.isi_int_list, Mx.isi_int_str, Mx.scal_int, Mx.scal_str, Mx.scal_bl, Mx.ofString_inj, Mx.ofString_beq, Mx.lk_cons, Mx.pf_nil, Mx.pf_cons, Mx.sz1, Mx.sz2, List.lookup_nil, String.reduceEq, decide_true, decide_false, decide_eq_true_eq, Int.natAbs_natCast, L2.upd_same, L2.upd_upd, L2.cxOf, L2.gSub, L2.tPar, L2.tPar3, L2.gCons, L2.gNil, Mx.optV, Mx.fsM, L2.tSl, L2.tPart, L2.rSlL])
set_option hygiene false in
local macro_rules | `(tactic| walk_at "rds") => `(tactic| try simp only [L2.start, List.map_cons, List.map_nil, List.length_cons, List.length_nil, Nat.reduceAdd, Nat.reduceSub, Nat.reduceLT, Nat.reduceLeDiff, List.replicate_succ, List.replicate_zero, List.append_nil, List.nil_append, List.cons_append, List.set_cons_zero, List.set_cons_succ, List.getElem?_cons_zero, List.getElem?_cons_succ,
  Option.some.injEq, List.cons.injEq, and_true, true_and, and_assoc, reduceCtorEq, L2.V.int.injEq, L2.V.ref.injEq, L2.V.bl.injEq, L2.V.str.injEq, L2.V.ty.injEq, L2.HO.ins.injEq, L2.HO.lst.injEq, L2.HO.tup.injEq, L2.HO.dK.injEq, exists_eq_left', exists_eq_left, exists_eq_right, exists_eq', exists_eq, exists_and_left, exists_and_right, reduceIte, Bool.false_eq_true, Bool.not_true, Bool.not_false,
  L2.tSeq, L2.tIfS, L2.tRet, L2.tRetN, L2.tNext, L2.tAsg, L2.gName, L2.tVar, L2.tC, L2.tCons, L2.tNil, L2.tCB, L2.tOp, L2.tUn, L2.tTup, L2.tLst, L2.tB, L2.tOr, L2.tAnd, L2.tNot, L2.tAndV, L2.tOrV, L2.tNotV, L2.tIf, L2.tTest, L2.tChain, L2.rI, L2.rI0, L2.rU, L2.tDrop, L2.tNever, L2.tCall, L2.tMeth, L2.tMake, L2.rGcd, L2.tFld, L2.sFld, L2.sFldAug, Mx.sFldA, Mx.sFldAugA, L2.rAdd, L2.rSub, L2.rEq, L2.rNe, L2.tDGet, L2.tDIn, L2.tDNotIn, L2.sDPut,
  Mx.isi_int_bool, Mx.isi_int_int, Mx.isi_int_tuple, Mx.isi_int_list, Mx.isi_int_str, Mx.scal_int, Mx.scal_str, Mx.scal_bl, Mx.ofString_inj, Mx.ofString_beq, Mx.lk_cons, Mx.pf_nil, Mx.pf_cons, Mx.sz1, Mx.sz2, List.lookup_nil, String.reduceEq, decide_true, decide_false, decide_eq_true_eq, Int.natAbs_natCast, L2.upd_same, L2.upd_upd, L2.cxOf, L2.gSub, L2.tPar, L2.tPar3, L2.gCons, L2.gNil, Mx.optV, Mx.fsM, L2.tSl, L2.tPart, L2.rSlL, *])

section
variable {P : Program} {w : World} {K : PySem.W.Frag} {mg : Str → Option Value} {base : Heap} {cs : Cs}
structure Y16 (K : PySem.W.Frag) (cs : Cs) (Hb H : Hp) (r sc : Addr) (ns : List Int) (m d k : Nat → Addr) (ml : Addr) (soft pn pb : Int) (xs : List Int) (tt : Nat) (A : Nat → VA) (v : Nat → VoiceS) (L : LoudS) (n : Nat) (F Qr : Rat) (fv lv : V) (Bt O : Int) : Prop where
  rw : Rw K Hb r sc ns H
  z : Z16 K cs Hb H m d k soft pn pb xs tt A v L n
  ld : Ld L F Qr Bt O
  qf : IsQ K H fv F
  ql : IsQ K H lv Qr
  rf : Rb n F
  rl : Rb 7 Qr
  ml : H ml = some (.lst (ms3 m))
  n7 : 7 ≤ n
/-- the lead that is drawn at a beat, or none -/
theorem ld_ok (B : Blt mg) (G : G16 P w K mg base cs) {f : Addr} {cdv : Value} {A0 : Around} {outer : List Env} {s0 : Shared} {H : Hp} {E : XK} (hr : Room 9 (A0.deeper (PyProof.Rows.envOfC "law" (defScope s_law) s0.heap.objs.size f cdv))) :
    ∃ t, PS (XL P w K mg base f cdv A0 outer s0 H E) (bS.getD 0 pass0d) t ∧ ∀ (D : Ends) (Hb H1 : Hp) (r sc : Addr) (ns : List Int) (m d k : Nat → Addr) (ml : Addr) (soft pn pb most : Int) (xs : List Int) (tt : Nat) (A : Nat → VA) (v : Nat → VoiceS) (L : LoudS) (n : Nat) (F Qr : Rat) (fv lv : V) (Bt O : Int) (x0 x2 x3 x4 x5 x7 x8 x14 x15 x16 x17 x18 x19 x20 : Option V),
      RowAt K Hb r sc ns → Y16 K cs Hb H1 r sc ns m d k ml soft pn pb xs tt A v L n F Qr fv lv Bt O → Hb ml ≠ none → n ≤ 6100 →
      (∀ H2 y7 y15 v' L' n' F' Q' fv' lv' B' O', Y16 K cs Hb H2 r sc ns m d k ml soft pn pb xs tt A v' L' n' F' Q' fv' lv' B' O' → n' ≤ n + 6 → D.nx [x0, some (.ref r), x2, x3, x4, x5, some (.ref ml), y7, x8, some fv', some lv', some (.int B'), some (.int O'), some (.int most), x14, y15, x16, x17, x18, x19, x20] H2) →
      t D [x0, some (.ref r), x2, x3, x4, x5, some (.ref ml), x7, x8, some fv, some lv, some (.int Bt), some (.int O), some (.int most), x14, x15, x16, x17, x18, x19, x20] H1 := by
  have nd := sc_law.nd
  have r1 := hr.mono (show 1 ≤ 9 by decide)
  have r2 := hr.mono (show 2 ≤ 9 by decide)
  obtain ⟨tL, hL, qL⟩ := le_ok G (outer := outer) (H := H) (E := E) hr
  refine ⟨_, (ps_if (pt_cmpR op_eq (p_call G.taken r1 (pa_cons (pv 1) (pa_cons (pe_ix ix_list (pe_lst (pa_cons pe_int (pa_cons pe_int pa_nil))) (pe_callTy call_int1 (by rfl) B.int PyProof.Rows.boot_int (pa_cons (pe_cmpR op_gt (pv 13) pe_int (nomark _)) pa_nil)) (fun _ _ => rfl)) pa_nil))) pe_int (nomark _))
    (pss_cons (ps_par3 (i := 15) (j := 11) (l := 12) (by rfl) nd rfl rfl rfl (by decide) (by decide) (by decide) rfl rfl rfl (pa_cons (p_call G.taken r1 (pa_cons (pv 1) (pa_cons pe_int pa_nil))) (pa_cons (pe_op op_add pe_int (p_call G.taken r1 (pa_cons (pv 1) (pa_cons (pe_ix ix_list (pe_lst (pa_cons pe_int (pa_cons pe_int pa_nil))) (p_call G.taken r1 (pa_cons (pv 1) (pa_cons pe_int pa_nil))) (fun _ _ => rfl)) pa_nil)))) (pa_cons pe_int pa_nil))) (by rfl))
    (pss_cons (ps_par (i := 9) (j := 10) (by rfl) nd rfl rfl (by decide) rfl rfl (pa_cons (pe_ix ix_tup (pe_ix ix_list (p_meth0 G.states r2 (pe_ix ix_list (pv 6) pe_int (fun _ _ => rfl))) pe_int (fun _ _ => rfl)) pe_int (fun _ _ => rfl)) (pa_cons (p_call G.share r1 (pa_cons (pv 15) (pa_cons pe_int pa_nil))) pa_nil)) (by rfl))
    (pss_one hL))) pss_nil), ?_⟩
  intro D Hb H1 r sc ns m d k ml soft pn pb most xs tt A v L n F Qr fv lv Bt O x0 x2 x3 x4 x5 x7 x8 x14 x15 x16 x17 x18 x19 x20 hb hY hmlb hnn q
  have hrt := row_there hb
  obtain ⟨hw, hZ, hLd, hqf, hql, hrf, hrl, hml, n7⟩ := hY
  have hmr : ml ≠ r := fun z => by
    obtain ⟨_, _, _, _, _, z1, _⟩ := hw.1
    rw [z, z1] at hml
    have := congrArg (fun o : Option HO => match o with | some (.lst l) => l.length | _ => 0) hml
    cases hml
  walk_at "rd"
  intro p1 hp1
  have e1 : upd H1 p1 (.lst [.int 12, .int 90]) p1 = some (.lst [.int 12, .int 90]) := upd_same
  have s1 := Stp.new (o := .lst [.int 12, .int 90]) hp1
  have hw1 := hw.st0 hb s1
  have hp1r : p1 ≠ r := row_ne hw.1 hp1
  generalize upd H1 p1 (.lst [.int 12, .int 90]) = H2 at *
  refine .inr ?_
  obtain ⟨c, c1, hat⟩ : ∃ c : Int, 1 ≤ c ∧ atI [V.int 12, V.int 90] (if 100 < most then 1 else 0) = some (.int c) := by
    split
    · exact ⟨90, by decide, rfl⟩
    · exact ⟨12, by decide, rfl⟩
  refine ixL (.inl (.inl e1)) hat ?_
  refine ⟨r, sc, ns, c, rfl, hw1.1, c1, fun z H3 z0 z1 hR3 s3 => ⟨rfl, ?_⟩⟩
  have hw3 := hw1.go hR3 s3
  have hZ3 := hZ.mv ((hZ.m3.st0 s1).str s3 hrt)
  have hml3 := s3.keep _ _ (s1.keep _ _ hml (by simp)) (by simpa using hmr)
  by_cases hz : V.int z = V.int 0
  · rw [if_pos hz]
    refine ⟨r, sc, ns, 65, rfl, hR3, by decide, fun l H4 l0 l1 hR4 s4 p5 hp5 => ?_⟩
    have hw4 := hw3.go hR4 s4
    have e5 : upd H4 p5 (.lst [.int 30, .int 64]) p5 = some (.lst [.int 30, .int 64]) := upd_same
    have s5 := Stp.new (o := .lst [.int 30, .int 64]) hp5
    have hw5 := hw4.st0 hb s5
    generalize upd H4 p5 (.lst [.int 30, .int 64]) = H5 at *
    refine ⟨r, sc, ns, 2, rfl, hw5.1, by decide, fun ix H6 i0 i1 hR6 s6 => ?_⟩
    obtain ⟨c2, c20, c21, hat2⟩ : ∃ c : Int, 1 ≤ c ∧ c ≤ 64 ∧ atI [V.int 30, V.int 64] ix = some (.int c) := by
      rcases (show ix = 0 ∨ ix = 1 by omega) with rfl | rfl
      · exact ⟨30, by decide, by decide, rfl⟩
      · exact ⟨64, by decide, by decide, rfl⟩
    refine ixL (.inl (.inl (s6.keep _ _ e5 (by simpa using row_ne hR4 hp5)))) hat2 ?_
    refine ⟨r, sc, ns, c2, rfl, hR6, c20, fun b H7 b0 b1 hR7 s7 => ⟨_, rfl, ?_⟩⟩
    have hw7 := (hw5.go hR6 s6).go hR7 s7
    have s37 : Stp [r] H3 H7 := (s4.trans (s5.trans (s6.trans s7))).sub (by simp)
    have hM7 := hZ3.m3.str s37 hrt
    have hml7 := s37.keep _ _ hml3 (by simpa using hmr)
    have hM70 := hM7.at_ 0 (by decide)
    obtain ⟨dxm, hm⟩ := id hM70.ob
    refine ixL (.inl (.inl hml7)) (x := .ref (m 0)) rfl ⟨m 0, rfl, dxm, _, hm, by walk_at "rd", m 0, d 0, k 0, mx3 soft tt A v 0, rfl, hM70, by show 1 < 64; decide, fun p H8 ls ns1 hp s8 hpm hpw hl hpr => ?_⟩
    have en : ns1 = [1] := List.perm_singleton.mp hpm
    subst en
    obtain ⟨w0, els, e, he, _, hst⟩ : ∃ w0, ls = [w0] ∧ ∃ e ∈ (mx3 soft tt A v 0).vs, e.1 = 1 ∧ IsSt K H8 w0 1 e.2.2 := by
      cases hpr with
      | cons h r => cases r; exact ⟨_, rfl, h⟩
    subst els
    have ee : e = (1, A 0, v 0) := List.mem_singleton.mp he
    subst ee
    obtain ⟨ta, pv, lvv, rfl, h1, h2, h3⟩ := hst
    have h3' : IsQ K H8 lvv L.level := by
      have := h3
      rw [show ((1, A 0, v 0) : MV).2.2.loud = L from hZ.ld 0 (by decide)] at this
      exact this
    refine ixL (.inl (.inl hl)) (x := .ref ta) rfl (ixT (.inl h1) (x := lvv) rfl ?_)
    refine ⟨l, 64, rfl, by decide, Nat.lt_of_lt_of_le (show (64 : Int).natAbs < 2 ^ 7 by decide) (Nat.pow_le_pow_right (by decide) (by decide)), fun p9 H9 hp9 s9 l9 => ?_⟩
    have s89 := s8.trans s9
    have hw9 := hw7.st0 hb s89
    have hZ9 := hZ3.mv (hM7.st0 s89)
    have hml9 := s89.keep _ _ hml7 (by simp)
    have hlb : Rb n L.level := by
      have hV := hZ.ok 0 (by decide)
      rw [← hZ.ld 0 (by decide)]
      obtain ⟨D, a, b, hI, hD⟩ := hV.loud
      exact (hI.rb hD).1
    refine qL _ Hb H9 m d k soft pn pb xs tt A v L n ml l (1 + b) _ _ _ _ _ _ _ _ _ _ _ _ _ _ _ _ _ _ hZ9 hml9 hmlb l0 (by omega) (by omega) (by omega) (by omega) (by omega) (fun b hb => hw9.fr hb) fun H10 y7 v' hZ' hml' _ s10 => ?_
    have hw10 := hw9.mv hb s10 fun b hbb => by
      obtain ⟨j, hj, hc⟩ := List.mem_flatMap.mp hbb
      exact hZ.m3.fr j (List.mem_range.mp hj) b hc
    exact q H10 y7 _ v' _ (n + 6) L.level (mkRat l 64) lvv (.ref p9) (1 + b) 0 ⟨hw10, hZ', Ld.to (by omega) (by omega), (h3'.st s9).st s10, (isQ_of l9).st s10, hlb.mono (by omega), Rb.of (by decide) (by omega) (by decide), hml', by omega⟩ (Nat.le_refl _)
  · rw [if_neg hz]
    exact q H3 _ _ v L n F Qr fv lv Bt O ⟨hw3, hZ3, hLd, (hqf.st s1).st s3, (hql.st s1).st s3, hrf, hrl, hml3, n7⟩ (by omega)
end
end Mx

namespace Mx
open PySem L2
set_option hygiene false in
local macro_rules | `(tactic| walk_at "rd") => `(tactic| try simp only [L2.start, List.map_cons, List.map_nil, List.length_cons, List.length_nil, Nat.reduceAdd, Nat.reduceSub, Nat.reduceLT, Nat.reduceLeDiff, List.replicate_succ, List.replicate_zero, List.append_nil, List.nil_append, List.cons_append, List.set_cons_zero, List.set_cons_succ, List.getElem?_cons_zero, List.getElem?_cons_succ,
  Option.some.injEq, List.cons.injEq, and_true, true_and, and_assoc, reduceCtorEq, L2.V.int.injEq, L2.V.ref.injEq, L2.V.bl.injEq, L2.V.str.injEq, L2.V.ty.injEq, L2.HO.ins.injEq, L2.HO.lst.injEq, L2.HO.tup.injEq, L2.HO.dK.injEq, exists_eq_left', exists_eq_left, exists_eq_right, exists_eq', exists_eq, exists_and_left, exists_and_right, reduceIte, Bool.false_eq_true, Bool.not_true, Bool.not_false,
  L2.tSeq, L2.tIfS, L2.tRet, L2.tRetN, L2.tNext, L2.tAsg, L2.gName, L2.tVar, L2.tC, L2.tCons, L2.tNil, L2.tCB, L2.tOp, L2.tUn, L2.tTup, L2.tLst, L2.tB, L2.tOr, L2.tAnd, L2.tNot, L2.tAndV, L2.tOrV, L2.tNotV, L2.tIf, L2.tTest, L2.tChain, L2.rI, L2.rI0, L2.rU, L2.tDrop, L2.tNever, L2.tCall, L2.tMeth, L2.tMake, L2.rGcd, L2.tFld, L2.sFld, L2.sFldAug, Mx.sFldA, Mx.sFldAugA, L2.rAdd, L2.rSub, L2.rEq, L2.rNe, L2.tDGet, L2.tDIn, L2.tDNotIn, L2.sDPut,
  Mx.isi_int_bool, Mx.isi_int_int, Mx.isi_int_tuple, Mx.isi_int_list, Mx.isi_int_str, Mx.scal_int, Mx.scal_str, Mx.scal_bl, Mx.ofString_inj, Mx.ofString_beq, Mx.lk_cons, Mx.pf_nil, Mx.pf_cons, Mx.sz1, Mx.sz2, List.lookup_nil, String.reduceEq, decide_true, decide_false, decide_eq_true_eq, Int.natAbs_natCast, L2.upd_same, L2.upd_upd, L2.cxOf, L2.gSub, L2.tPar, L2.tPar3, L2.gCons, L2.gNil, Mx.optV, Mx.fsM, L2.tSl, L2.tPart, L2.rSlL])
set_option hygiene false in
local macro_rules | `(tactic| walk_at "rds") => `(tactic| try simp only [L2.start, List.map_cons, List.map_nil, List.length_cons, List.length_nil, Nat.reduceAdd, Nat.reduceSub, Nat.reduceLT, Nat.reduceLeDiff, List.replicate_succ, List.replicate_zero, List.append_nil, List.nil_append, List.cons_append, List.set_cons_zero, List.set_cons_succ, List.getElem?_cons_zero, List.getElem?_cons_succ,
  Option.some.injEq, List.cons.injEq, and_true, true_and, and_assoc, reduceCtorEq, L2.V.int.injEq, L2.V.ref.injEq, L2.V.bl.injEq, L2.V.str.injEq, L2.V.ty.injEq, L2.HO.ins.injEq, L2.HO.lst.injEq, L2.HO.tup.injEq, L2.HO.dK.injEq, exists_eq_left', exists_eq_left, exists_eq_right, exists_eq', exists_eq, exists_and_left, exists_and_right, reduceIte, Bool.false_eq_true, Bool.not_true, Bool.not_false,
  L2.tSeq, L2.tIfS, L2.tRet, L2.tRetN, L2.tNext, L2.tAsg, L2.gName, L2.tVar, L2.tC, L2.tCons, L2.tNil, L2.tCB, L2.tOp, L2.tUn, L2.tTup, L2.tLst, L2.tB, L2.tOr, L2.tAnd, L2.tNot, L2.tAndV, L2.tOrV, L2.tNotV, L2.tIf, L2.tTest, L2.tChain, L2.rI, L2.rI0, L2.rU, L2.tDrop, L2.tNever, L2.tCall, L2.tMeth, L2.tMake, L2.rGcd, L2.tFld, L2.sFld, L2.sFldAug, Mx.sFldA, Mx.sFldAugA, L2.rAdd, L2.rSub, L2.rEq, L2.rNe, L2.tDGet, L2.tDIn, L2.tDNotIn, L2.sDPut,
  Mx.isi_int_bool, Mx.isi_int_int, Mx.isi_int_tuple, Mx.isi_int_list, Mx.isi_int_str, Mx.scal_int, Mx.scal_str, Mx.scal_bl, Mx.ofString_inj, Mx.ofString_beq, Mx.lk_cons, Mx.pf_nil, Mx.pf_cons, Mx.sz1, Mx.sz2, List.lookup_nil, String.reduceEq, decide_true, decide_false, decide_eq_true_eq, Int.natAbs_natCast, L2.upd_same, L2.upd_upd, L2.cxOf, L2.gSub, L2.tPar, L2.tPar3, L2.gCons, L2.gNil, Mx.optV, Mx.fsM, L2.tSl, L2.tPart, L2.rSlL, *])

section
variable {P : Program} {w : World} {K : PySem.W.Frag} {mg : Str → Option Value} {base : Heap} {cs : Cs}
/-- the fifth check of a beat: the hushed one gives nothing; from soft beats on, both give the same -/
theorem e5_ok {f : Addr} {cdv : Value} {A0 : Around} {outer : List Env} {s0 : Shared} {H : Hp} {E : XK} (hr : Room 9 (A0.deeper (PyProof.Rows.envOfC "law" (defScope s_law) s0.heap.objs.size f cdv))) :
    ∃ t, PS (XL P w K mg base f cdv A0 outer s0 H E) (bS.getD 5 pass0d) t ∧ ∀ (D : Ends) (H1 : Hp) (soft : Int) (tt : Nat) (D0 : Addr) (ys : List V) (y0 y1 y2 : V) (q0 q1 : Rat) (x0 x1 x3 x4 x5 x6 x7 x8 x9 x10 x11 x12 x13 x15 x17 x18 x19 x20 : Option V),
      H1 D0 = some (.lst ys) → ys[0]? = some y0 → ys[1]? = some y1 → ys[2]? = some y2 → IsQ K H1 y0 q0 → IsQ K H1 y1 q1 → IsQ K H1 y2 0 → (soft - 1 ≤ (tt : Int) → q0 = q1) →
      (∀ H2, Stp [] H1 H2 → D.nx [x0, x1, some (.int soft), x3, x4, x5, x6, x7, x8, x9, x10, x11, x12, x13, some (.int (tt : Int)), x15, some (.ref D0), x17, x18, x19, x20] H2) →
      t D [x0, x1, some (.int soft), x3, x4, x5, x6, x7, x8, x9, x10, x11, x12, x13, some (.int (tt : Int)), x15, some (.ref D0), x17, x18, x19, x20] H1 := by
  have nd := sc_law.nd
  have hu64 : (A0.deeper (PyProof.Rows.envOfC "law" (defScope s_law) s0.heap.objs.size f cdv)).units + 64 < cLine := by
    have := hr.un
    omega
  refine ⟨_, (ps_if (PW.pt (pw_or (pt_cmpR (op_neD hu64) (pe_ix ix_list (pv 16) pe_int (fun _ _ => rfl)) (pe_tup (pa_cons pe_int (pa_cons pe_int pa_nil))) (nomark _)) (pw_or1 (PW.pt (pw_and (pt_cmpR op_ge (pv 14) (pe_op op_sub (pv 2) pe_int) (nomark _)) (pw_and1 (pt_cmpR (op_neD hu64) (pe_ix ix_list (pv 16) pe_int (fun _ _ => rfl)) (pe_ix ix_list (pv 16) pe_int (fun _ _ => rfl)) (nomark _)))))))) pss_never pss_nil), ?_⟩
  intro D H1 soft tt D0 ys y0 y1 y2 q0 q1 x0 x1 x3 x4 x5 x6 x7 x8 x9 x10 x11 x12 x13 x15 x17 x18 x19 x20 hD e0 e1 e2 h0 h1 h2 hqq q
  have at_ : ∀ (j : Nat) (y : V), ys[j]? = some y → atI ys (j : Int) = some y := fun j y h => by
    have := at_pos h
    rw [Int.zero_add] at this
    exact this
  walk_at "rd"
  refine ixL (.inl (.inl hD)) (x := y2) (at_ 2 y2 e2) fun p hp => ?_
  have ep : upd H1 p (.tup [.int 0, .int 1]) p = some (.tup (frac 0)) := upd_same
  have s1 := Stp.new (o := .tup [.int 0, .int 1]) hp
  generalize upd H1 p (.tup [.int 0, .int 1]) = H2 at *
  refine ne_T (EqT.q (h2.st s1) (isQ_of ep)) (by decide) ⟨_, rfl, ?_⟩
  rw [if_neg (by decide)]
  have hD2 := s1.keep _ _ hD (by simp)
  by_cases hc : soft - 1 ≤ (tt : Int)
  · rw [if_pos hc]
    refine ixL (.inl (.inl hD2)) (x := y0) (at_ 0 y0 e0) (ixL (.inl (.inl hD2)) (x := y1) (at_ 1 y1 e1) ?_)
    have h0' := h0.st s1
    rw [hqq hc] at h0'
    refine ne_T (EqT.q h0' (h1.st s1)) (by decide) ⟨_, rfl, ?_⟩
    rw [if_neg (by decide)]
    exact q _ s1
  · rw [if_neg hc]
    exact q _ s1
/-- the last check of a beat: while softness grows, it gives that part -/
theorem e6_ok (G : G16 P w K mg base cs) {f : Addr} {cdv : Value} {A0 : Around} {outer : List Env} {s0 : Shared} {H : Hp} {E : XK} (hr : Room 9 (A0.deeper (PyProof.Rows.envOfC "law" (defScope s_law) s0.heap.objs.size f cdv))) :
    ∃ t, PS (XL P w K mg base f cdv A0 outer s0 H E) (bS.getD 6 pass0d) t ∧ ∀ (D : Ends) (H1 : Hp) (soft : Int) (tt : Nat) (D0 : Addr) (ys : List V) (y0 y1 : V) (q0 q1 : Rat) (n : Nat) (x0 x1 x3 x4 x5 x6 x7 x8 x9 x10 x11 x12 x13 x15 x17 x18 x19 x20 : Option V),
      H1 D0 = some (.lst ys) → ys[0]? = some y0 → ys[1]? = some y1 → IsQ K H1 y0 q0 → IsQ K H1 y1 q1 → Rb n q0 → 0 < n → n ≤ 8000 → 1 ≤ soft → soft ≤ 16 → ((tt : Int) < soft → q1 = q0 * mkRat ((tt : Int) + 1) soft.toNat) →
      (∀ H2, Stp [] H1 H2 → D.nx [x0, x1, some (.int soft), x3, x4, x5, x6, x7, x8, x9, x10, x11, x12, x13, some (.int (tt : Int)), x15, some (.ref D0), x17, x18, x19, x20] H2) →
      t D [x0, x1, some (.int soft), x3, x4, x5, x6, x7, x8, x9, x10, x11, x12, x13, some (.int (tt : Int)), x15, some (.ref D0), x17, x18, x19, x20] H1 := by
  have nd := sc_law.nd
  have r2 := hr.mono (show 2 ≤ 9 by decide)
  have hu64 : (A0.deeper (PyProof.Rows.envOfC "law" (defScope s_law) s0.heap.objs.size f cdv)).units + 64 < cLine := by
    have := hr.un
    omega
  refine ⟨_, (ps_if (PW.pt (pw_and (pt_cmpR op_lt (pv 14) (pv 2) (nomark _)) (pw_and1 (pt_cmpR (op_neD hu64) (pe_ix ix_list (pv 16) pe_int (fun _ _ => rfl)) (p_call G.times r2 (pa_cons (pe_ix ix_list (pv 16) pe_int (fun _ _ => rfl)) (pa_cons (pe_op op_add (pv 14) pe_int) (pa_cons (pv 2) pa_nil)))) (nomark _))))) pss_never pss_nil), ?_⟩
  intro D H1 soft tt D0 ys y0 y1 q0 q1 n x0 x1 x3 x4 x5 x6 x7 x8 x9 x10 x11 x12 x13 x15 x17 x18 x19 x20 hD e0 e1 h0 h1 hrb n0 n1 so1 so2 hqq q
  have at_ : ∀ (j : Nat) (y : V), ys[j]? = some y → atI ys (j : Int) = some y := fun j y h => by
    have := at_pos h
    rw [Int.zero_add] at this
    exact this
  obtain ⟨a0, rfl, t0⟩ := id h0
  walk_at "rd"
  by_cases hc : (tt : Int) < soft
  · rw [if_pos hc]
    refine ixL (.inl (.inl hD)) (x := y1) (at_ 1 y1 e1) (ixL (.inl (.inl hD)) (x := .ref a0) (at_ 0 _ e0) ?_)
    refine ⟨a0, q0, (tt : Int) + 1, soft, n, 7, rfl, t0, hrb, by omega, by omega, by omega, by omega, by omega, by decide, fun p H2 hp s2 l2 => ?_⟩
    have h1' := h1.st s2
    rw [hqq hc] at h1'
    refine ne_T (EqT.q h1' (isQ_of l2)) (by decide) ⟨_, rfl, ?_⟩
    rw [if_neg (by decide)]
    exact q _ s2
  · rw [if_neg hc]
    exact q _ Stp.refl
theorem b_ok (B : Blt mg) (G : G16 P w K mg base cs) {f : Addr} {cdv : Value} {A0 : Around} {outer : List Env} {s0 : Shared} {H : Hp} {E : XK} (hr : Room 9 (A0.deeper (PyProof.Rows.envOfC "law" (defScope s_law) s0.heap.objs.size f cdv))) :
    ∃ t, PSs (XL P w K mg base f cdv A0 outer s0 H E) bS t ∧ ∀ (D : Ends) (Hb H1 : Hp) (r sc : Addr) (ns : List Int) (m d k : Nat → Addr) (ml : Addr) (soft pn pb most : Int) (xs : List Int) (tt : Nat) (A : Nat → VA) (v : Nat → VoiceS) (L : LoudS) (n : Nat) (F Qr : Rat) (fv lv : V) (Bt O : Int) (x0 x3 x4 x5 x7 x8 x15 x16 x17 x18 x19 x20 : Option V),
      RowAt K Hb r sc ns → Y16 K cs Hb H1 r sc ns m d k ml soft pn pb xs tt A v L n F Qr fv lv Bt O → Hb ml ≠ none → n ≤ 6000 → 1 ≤ soft → soft ≤ 16 → xs.length = 1000 → 1 ≤ pn → 1 ≤ pb → (tt : Int) * pn / pb ≤ 998 →
      (∀ H2 y4 y7 y15 y16 y17 y18 y19 y20 v' L' n' F' Q' fv' lv' B' O', Y16 K cs Hb H2 r sc ns m d k ml soft pn pb xs (tt + 1) A v' L' n' F' Q' fv' lv' B' O' → n' ≤ n + 6 → D.nx [x0, some (.ref r), some (.int soft), x3, y4, x5, some (.ref ml), y7, x8, some fv', some lv', some (.int B'), some (.int O'), some (.int most), some (.int (tt : Int)), y15, y16, y17, y18, y19, y20] H2) →
      t D [x0, some (.ref r), some (.int soft), x3, x4, x5, some (.ref ml), x7, x8, some fv, some lv, some (.int Bt), some (.int O), some (.int most), some (.int (tt : Int)), x15, x16, x17, x18, x19, x20] H1 := by
  have nd := sc_law.nd
  have r1 := hr.mono (show 1 ≤ 9 by decide)
  have r2 := hr.mono (show 2 ≤ 9 by decide)
  have hu64 : (A0.deeper (PyProof.Rows.envOfC "law" (defScope s_law) s0.heap.objs.size f cdv)).units + 64 < cLine := by
    have := hr.un
    omega
  obtain ⟨uL, hL, qL⟩ := ld_ok B G (outer := outer) (H := H) (E := E) hr
  obtain ⟨uF, hF, qF⟩ := fo_ok G (outer := outer) (H := H) (E := E) hr
  obtain ⟨uC, hC, qC⟩ := ck_ok B G (outer := outer) (H := H) (E := E) hr
  obtain ⟨u5, h5, q5⟩ := e5_ok (P := P) (w := w) (K := K) (mg := mg) (base := base) (outer := outer) (H := H) (E := E) hr
  obtain ⟨u6, h6, q6⟩ := e6_ok G (outer := outer) (H := H) (E := E) hr
  refine ⟨_, (pss_cons hL
    (pss_cons (ps_set (i := 12) nd rfl (.inl rfl) (pe_callB (call_min2 rfl) (by rfl) G.min PyProof.Rows.boot_min (pa_cons (pv 11) (pa_cons (pe_op op_add (pv 12) pe_int) pa_nil))))
    (pss_cons hF
    (pss_cons (ps_set (i := 17) nd rfl (.inl rfl) (p_call G.plus r2 (pa_cons (p_call G.times r2 (pa_cons (pv 9) (pa_cons (pe_op op_sub (pv 11) (pv 12)) (pa_cons (pv 11) pa_nil)))) (pa_cons (p_call G.times r2 (pa_cons (pv 10) (pa_cons (pv 12) (pa_cons (pv 11) pa_nil)))) pa_nil))))
    (pss_cons hC
    (pss_cons h5 (pss_one h6))))))), ?_⟩
  intro D Hb H1 r sc ns m d k ml soft pn pb most xs tt A v L n F Qr fv lv Bt O x0 x3 x4 x5 x7 x8 x15 x16 x17 x18 x19 x20 hb hY hmlb hnn so1 so2 hxl pn1 pb1 htt q
  walk_at "rd"
  refine qL _ Hb H1 r sc ns m d k ml soft pn pb most xs tt A v L n F Qr fv lv Bt O _ _ _ _ _ _ _ _ _ _ _ _ _ _ hb hY hmlb (by omega) fun H2 y7 y15 v2 La n2 F2 Q2 fv2 lv2 B2 O2 hY2 hn2 => ?_
  clear hY
  obtain ⟨hw2, hZ2, hLd2, hqf2, hql2, hrf2, hrl2, hml2, n72⟩ := hY2
  obtain ⟨hLd3, hlev⟩ := hLd2.on
  walk_at "rd"
  have eO : (if O2 + 1 < B2 then O2 + 1 else B2) = (if O2 + 1 ≤ B2 then O2 + 1 else B2) := by split <;> split <;> omega
  rw [eO]
  generalize eo3 : (if O2 + 1 ≤ B2 then O2 + 1 else B2) = O3 at *
  refine qF _ Hb H2 m d k soft pn pb xs tt A v2 La n2 ml _ _ _ _ _ _ _ _ _ _ _ _ _ _ _ _ _ _ _ _ hZ2 hml2 hmlb so1 so2 (by omega) (by omega) (fun b hb => hw2.fr hb) hxl pn1 pb1 htt fun H3 D0 ys hZ3 hml3 hD3 hyl hys hD2 s3 => ?_
  have hw3 := hw2.mv hb s3 fun b hbb => by
    obtain ⟨j, hj, hc⟩ := List.mem_flatMap.mp hbb
    exact hZ2.m3.fr j (List.mem_range.mp hj) b hc
  have hlb : Rb n2 La.on.level := by
    have hV := hZ3.ok 0 (by decide)
    rw [← hZ3.ld 0 (by decide)]
    obtain ⟨D, a, b, hI, hD⟩ := hV.loud
    exact (hI.rb hD).1
  have hqf2' := hqf2.st s3
  have hql2' := hql2.st s3
  obtain ⟨af, rfl, tf⟩ := id hqf2
  obtain ⟨al, rfl, tl⟩ := id hql2
  have B0 := hLd3.b0
  have B1 := hLd3.b1
  have O0 := hLd3.o0
  have O1 := hLd3.o1
  walk_at "rd"
  refine ⟨af, F2, B2 - O3, B2, n2, 7, rfl, tf.st s3, hrf2, by omega, by omega, by omega, by omega, by omega, by decide, fun p4 H4 hp4 s4 l4 => ?_⟩
  refine ⟨al, Q2, O3, B2, 7, 7, rfl, (tl.st s3).st s4, hrl2, by omega, by omega, by omega, by decide, by decide, by decide, fun p5 H5 hp5 s5 l5 => ?_⟩
  refine ⟨p4, p5, F2 * mkRat (B2 - O3) B2.toNat, Q2 * mkRat O3 B2.toNat, n2 + 7, 14, rfl, .inl (s5.tup _ _ l4), .inl l5, hrf2.mul (Rb.of (n := 7) (by omega) (by omega) (by omega)), hrl2.mul (Rb.of (n := 7) (by omega) (by omega) (by omega)), by omega, by omega, by decide, fun p6 H6 hp6 s6 l6 => ?_⟩
  have s36 : Stp [] H3 H6 := (s4.trans (s5.trans s6)).sub (by simp)
  have hdue : IsQ K H6 (.ref p6) La.on.level := by
    rw [hlev]
    exact isQ_of l6
  have hZ6 := hZ3.mv (hZ3.m3.st0 s36)
  have r0 : ∀ j, j < 3 → (v2 j).line.ready (tt : Int) = true := fun j hj => ((hZ2.ln j hj).ready (t := (tt : Int)) hxl pb1 pn1 (by omega) htt).1
  have g0 := hZ2.w0.give (Int.le_refl 1) (r0 0 (by decide))
  have g1 := hZ2.w1.give so1 (r0 1 (by decide))
  have g2 := hZ2.w2.give (tt : Int) soft
  refine qC _ Hb H6 m d k soft pn pb xs (tt + 1) A _ La.on n2 ml D0 (.ref p6) ys _ _ _ _ _ _ _ _ _ _ _ _ _ _ _ _ _ _ hZ6 (s36.keep _ _ hml3 (by simp)) (s36.keep _ _ hD3 (by simp)) hyl (fun j hj => by
    obtain ⟨y, hy, hyq⟩ := hys j hj
    exact ⟨y, hy, hyq.st s36⟩) hdue g0.2.2.1 g1.2.2.1 fun H7 y4 y15' y18 y19 y20 s7 => ?_
  obtain ⟨y0, hy0, hq0⟩ := hys 0 (by decide)
  obtain ⟨y1, hy1, hq1⟩ := hys 1 (by decide)
  obtain ⟨y2, hy2, hq2⟩ := hys 2 (by decide)
  have s37 : Stp [] H3 H7 := (s36.trans s7).sub (by simp)
  have hD7 := s37.keep _ _ hD3 (by simp)
  have st7 : ∀ {y : V} {q : Rat}, IsQ K H3 y q → IsQ K H7 y q := fun h => h.st s37
  walk_at "rd"
  have cl1 : climb 1 tt = 1 := by unfold climb; split <;> omega
  have p0 : ((v2 0).give (tt : Int) (so3 soft 0)).part = (v2 0).line.value tt * La.on.level := by
    have := g0.2.1
    rw [cl1, show mkRat 1 (1 : Int).toNat = 1 from by decide +kernel, hZ2.ld 0 (by decide)] at this
    rw [show so3 soft 0 = 1 from rfl, this]
    grind
  have p1 : ((v2 1).give (tt : Int) (so3 soft 1)).part = (v2 0).line.value tt * La.on.level * mkRat (climb soft tt) soft.toNat := by
    have := g1.2.1
    rw [hZ2.ld 1 (by decide), (hZ2.ln 1 (by decide)).value (hZ2.ln 0 (by decide))] at this
    exact this
  have p2 : ((v2 2).give (tt : Int) (so3 soft 2)).part = 0 := g2.1.p
  rw [p2] at hq2
  refine q5 _ H7 soft tt D0 ys y0 y1 y2 _ _ _ _ _ _ _ _ _ _ _ _ _ _ _ _ _ _ _ _ hD7 hy0 hy1 hy2 (st7 hq0) (st7 hq1) (st7 hq2) (fun hc => ?_) fun H8 s8 => ?_
  · rw [p0, p1, show climb soft tt = soft from by unfold climb; split <;> omega, mk_k, mk_full so1]
    grind
  walk_at "rd"
  refine q6 _ H8 soft tt D0 ys y0 y1 _ _ (n2 + 24) _ _ _ _ _ _ _ _ _ _ _ _ _ _ _ _ _ _ (s8.keep _ _ hD7 (by simp)) hy0 hy1 ((st7 hq0).st s8) ((st7 hq1).st s8) (hZ3.ok 0 (by decide)).part (by omega) (by omega) so1 so2 (fun hc => ?_) fun H9 s9 => ?_
  · rw [p0, p1, show climb soft tt = (tt : Int) + 1 from by unfold climb; split <;> omega]
  walk_at "rd"
  have s39 : Stp [] H3 H9 := (s37.trans (s8.trans s9)).sub (by simp)
  exact q H9 _ _ _ _ _ _ _ _ _ La.on n2 F2 Q2 _ _ B2 O3 ⟨hw3.st0 hb s39, hZ3.mv (hZ3.m3.st0 s39), hLd3, hqf2'.st s39, hql2'.st s39, hrf2, hrl2, s39.keep _ _ hml3 (by simp), n72⟩ hn2
end
end Mx

namespace Mx
open PySem L2
theorem lc_rel {J : It} {n : Nat} {G : Hp → Prop} {Y : Nat → Hp → V → Hp → Prop} (w : Walk J n G Y) {F : List Addr} {H1 H9 : Hp} {i : Nat} {tt : TT} {te : TE} {σ : L2.St} {Q : VK} (Z : Hp → Prop) (R : Hp → Nat → V → Prop) (p : Nat → Bool) (YX : Nat → V → Prop)
    (z1 : Z H1) (hF : ∀ b ∈ F, H1 b ≠ none) (hz : ∀ D H H', H1 D = none → Z H → Stp [D] H H' → Stp F H1 H' → Z H') (hG : ∀ H, Z H → Stp F H1 H → G H) (hR : ∀ F' H H' j y, R H j y → Stp F' H H' → R H' j y) (hn : n ≤ 100000)
    (hY : ∀ j H x H', j < n → Y j H x H' → H' = H ∧ YX j x)
    (ht : ∀ j x H, j < n → YX j x → Z H → Stp F H1 H → ∀ Q' : Bool → Hp → Prop, (∀ H', Z H' → Stp F H1 H' → Stp F H H' → Q' (p j) H') → tt ((wipe σ [i]).set i (some x)) H Q')
    (he : ∀ j x H, j < n → YX j x → p j = true → Z H → Stp F H1 H → ∀ Q' : VK, (∀ y H', R H' j y → Z H' → Stp F H1 H' → Stp F H H' → Q' y H') → te ((wipe σ [i]).set i (some x)) H Q')
    (k : ∀ D H' ys, H1 D = none → Z H' → Stp F H1 H' → H' D = some (.lst ys) → Paired (R H') ((List.range n).filter p) ys → Q (.ref D) H') :
    tLc (fun _ _ R => R J H1) (gName i) tt te [i] σ H9 Q := by
  intro D hD
  have hDF : D ∉ F := fun z => hF D z hD
  refine lc_it w (fun m H => Z H ∧ Stp F H1 H ∧ ∃ ys, H D = some (.lst ys) ∧ Paired (R H) ((List.range m).filter p) ys) ⟨hz D _ _ hD z1 ((Stp.new hD).sub (by simp)) ((Stp.new hD).sub (by simp)), (Stp.new hD).sub (by simp), [], upd_same, .nil⟩ (fun m H _ h => hG H h.1 h.2.1) (fun m x H H' hm h hy => ?_) (fun H h => ?_)
  · obtain ⟨rfl, hx⟩ := hY m H x H' hm hy
    obtain ⟨z, sm, ys, hD2, hp⟩ := h
    refine ⟨wipe1, ?_⟩
    have ef : (List.range (m + 1)).filter p = (List.range m).filter p ++ if p m = true then [m] else [] := by
      rw [List.range_succ, List.filter_append]
      congr 1
      rw [List.filter_cons, List.filter_nil]
    refine ht m x _ hm hx z sm _ fun H2 z2 s2 s2' => ?_
    have hD3 := s2'.keep _ _ hD2 hDF
    have hp2 : Paired (R H2) ((List.range m).filter p) ys := pr_map (fun _ _ q => hR _ _ _ _ _ q s2') hp
    cases e : p m with
    | false =>
      rw [if_neg (by simp)]
      rw [e] at ef
      exact ⟨z2, s2, ys, hD3, by rw [ef]; simpa using hp2⟩
    | true =>
      rw [if_pos rfl]
      rw [e] at ef
      refine he m x _ hm hx e z2 s2 _ fun y H3 hy3 z3 s3 s3' => ?_
      have hD4 := s3'.keep _ _ hD3 hDF
      have sP := Stp.put (o := .lst (ys ++ [y])) hD4 (fun xs z => nomatch z)
      have sA : Stp F H1 (upd H3 D (.lst (ys ++ [y]))) := (s3.trans sP).subN fun b hb => by
        rcases List.mem_append.mp hb with q | q
        · exact .inl q
        · exact .inr (List.mem_singleton.mp q ▸ hD)
      refine ⟨ys, hD4, ?_, hz D _ _ hD z3 sP sA, sA, ys ++ [y], upd_same, ?_⟩
      · rw [← hp.length]
        exact Nat.lt_of_le_of_lt (Nat.le_trans (List.length_filter_le _ _) (by rw [List.length_range]; exact show m ≤ 100000 by omega)) (by decide)
      · rw [ef]
        exact (pr_map (fun _ _ q => hR _ _ _ _ _ q (s3'.trans sP)) hp2).snoc (hR _ _ _ _ _ hy3 sP)
  · obtain ⟨z, sm, ys, hD2, hp⟩ := h
    exact k D H ys hD z sm hD2 hp
/-- a comprehension that draws whole numbers, so many as a range tells -/
theorem lc_rowI {K : PySem.W.Frag} {r sc : Addr} {ns : List Int} {H1 : Hp} {n : Nat} {ta : TA} {i : Nat} {te : TE} {σ : L2.St} {Q : VK} (lo hi : Int) (hR : RowAt K H1 r sc ns) (hn : n ≤ 100000) (hta : ∀ R : List V → Hp → Prop, R [.int (n : Int)] H1 → ta σ H1 R)
    (he : ∀ x H, RowAt K H r sc ns → ∀ Q' : VK, (∀ v H', lo ≤ v → v ≤ hi → RowAt K H' r sc ns → Stp [r] H H' → Q' (.int v) H') → te ((wipe σ [i]).set i (some x)) H Q')
    (k : ∀ D H' (xs : List Int), H1 D = none → RowAt K H' r sc ns → Stp [r] H1 H' → H' D = some (.lst (xs.map V.int)) → xs.length = n → (∀ v ∈ xs, lo ≤ v ∧ v ≤ hi) → Q (.ref D) H') :
    tLc (iRng1 ta) (gName i) tYes te [i] σ H1 Q := by
  refine hta _ ⟨_, rfl, by omega, by omega, ?_⟩
  refine lc_rel (H9 := H1) (walk_range (lo := 0) (n := n)) (F := [r]) (Z := fun H => RowAt K H r sc ns) (R := fun _ _ y => ∃ v : Int, y = .int v ∧ lo ≤ v ∧ v ≤ hi) (p := fun _ => true) (YX := fun _ _ => True) hR ?_ ?_ (fun _ _ _ => trivial) (fun _ _ _ _ _ h _ => h) hn (fun j H x H' _ h => ⟨h.1, trivial⟩) (fun j x H _ _ z s Q' q => q H z s (Stp.refl.sub (by simp))) (fun j x H _ _ _ z s Q' q => ?_) fun D H' ys hD z s hl hp => ?_
  · intro b hb
    rw [List.mem_singleton.mp hb]
    obtain ⟨_, _, _, _, _, z, _⟩ := hR
    rw [z]
    exact nofun
  · intro D H H' hD z s s0
    exact row_mv hR z s (by simpa using (row_ne hR hD).symm) s0
  · exact he x H z Q' fun v H' v0 v1 hR' s' => q _ H' ⟨v, rfl, v0, v1⟩ hR' ((s.trans s').sub (by simp)) s'
  · have : ∀ {js : List Nat} {ys : List V}, Paired (fun (_ : Nat) y => ∃ v : Int, y = .int v ∧ lo ≤ v ∧ v ≤ hi) js ys → ∃ xs : List Int, ys = xs.map V.int ∧ xs.length = js.length ∧ ∀ v ∈ xs, lo ≤ v ∧ v ≤ hi := by
      intro js ys h
      induction h with
      | nil => exact ⟨[], rfl, rfl, by simp⟩
      | cons h _ ih =>
        obtain ⟨v, rfl, v0, v1⟩ := h
        obtain ⟨xs, rfl, e, q⟩ := ih
        refine ⟨v :: xs, rfl, by simp [e], fun u hu => ?_⟩
        rcases List.mem_cons.mp hu with rfl | hu
        · exact ⟨v0, v1⟩
        · exact q u hu
    obtain ⟨xs, rfl, e, q⟩ := this hp
    refine k D H' xs hD z s hl ?_ q
    rw [e, List.filter_eq_self.mpr (fun _ _ => rfl), List.length_range]
/-- pairs of whole numbers over a range -/
theorem lc_pairs {H1 : Hp} {n : Nat} {ta : TA} {i : Nat} {te : TE} {σ : L2.St} {Q : VK} (f g : Nat → Int) (hn : n ≤ 100000) (hta : ∀ R : List V → Hp → Prop, R [.int (n : Int)] H1 → ta σ H1 R)
    (he : ∀ (j : Nat) H, j < n → ∀ Q' : VK, (∀ t H', H' t = some (.tup [.int (f j), .int (g j)]) → Stp [] H H' → Q' (.ref t) H') → te ((wipe σ [i]).set i (some (.int (0 + (j : Int))))) H Q')
    (k : ∀ D H' (ts : List Addr), H1 D = none → Stp [] H1 H' → H' D = some (.lst (ts.map V.ref)) → Paired (fun (j : Nat) t => H' t = some (.tup [.int (f j), .int (g j)])) (List.range n) ts → Q (.ref D) H') :
    tLc (iRng1 ta) (gName i) tYes te [i] σ H1 Q := by
  refine hta _ ⟨_, rfl, by omega, by omega, ?_⟩
  refine lc_rel (H9 := H1) (walk_range (lo := 0) (n := n)) (F := []) (Z := fun _ => True) (R := fun H j y => ∃ t, y = .ref t ∧ H t = some (.tup [.int (f j), .int (g j)])) (p := fun _ => true) (YX := fun j x => x = .int (0 + (j : Int))) trivial (by simp) (fun _ _ _ _ _ _ _ => trivial) (fun _ _ _ => trivial) (fun F' H H' j y h s => ?_) hn (fun j H x H' _ h => h) (fun j x H _ _ z s Q' q => q H trivial s Stp.refl) (fun j x H hj hx _ z s Q' q => ?_) fun D H' ys hD z s hl hp => ?_
  · obtain ⟨t, rfl, h⟩ := h
    exact ⟨t, rfl, s.tup _ _ h⟩
  · subst hx
    exact he j H hj Q' fun t H' h s' => q _ H' ⟨t, rfl, h⟩ trivial (s.trans s') s'
  · rw [List.filter_eq_self.mpr (fun _ _ => rfl)] at hp
    have : ∀ {js : List Nat} {ys : List V}, Paired (fun (j : Nat) y => ∃ t, y = .ref t ∧ H' t = some (.tup [.int (f j), .int (g j)])) js ys → ∃ ts : List Addr, ys = ts.map V.ref ∧ Paired (fun (j : Nat) t => H' t = some (.tup [.int (f j), .int (g j)])) js ts := by
      intro js ys h
      induction h with
      | nil => exact ⟨[], rfl, .nil⟩
      | cons h _ ih =>
        obtain ⟨t, rfl, h⟩ := h
        obtain ⟨ts, rfl, q⟩ := ih
        exact ⟨t :: ts, rfl, .cons h q⟩
    obtain ⟨ts, rfl, q⟩ := this hp
    exact k D H' ts hD s hl q
end Mx
namespace Mx
open PySem L2
/-- a comprehension over a dict's keys -/
theorem lc_keysR {d : Addr} {o : Obj} {kvs : List (Key × V)} {F : List Addr} {H1 : Hp} {i v : Nat} {tt : TT} {te : TE} {σ : L2.St} {Q : VK} (hv : σ[v]? = some (some (.ref d))) (hd : H1 d = some (.frz o (.dK kvs))) (hdF : d ∉ F) (Z : Hp → Prop) (R : Hp → Nat → V → Prop) (p : Nat → Bool)
    (z1 : Z H1) (hF : ∀ b ∈ F, H1 b ≠ none) (hz : ∀ D H H', H1 D = none → Z H → Stp [D] H H' → Stp F H1 H' → Z H') (hR : ∀ F' H H' j y, R H j y → Stp F' H H' → R H' j y) (hn : kvs.length ≤ 100000)
    (ht : ∀ j k w H, kvs[j]? = some (k, w) → Z H → Stp F H1 H → ∀ Q' : Bool → Hp → Prop, (∀ H', Z H' → Stp F H1 H' → Stp F H H' → Q' (p j) H') → tt ((wipe σ [i]).set i (some (kV k))) H Q')
    (he : ∀ j k w H, kvs[j]? = some (k, w) → p j = true → Z H → Stp F H1 H → ∀ Q' : VK, (∀ y H', R H' j y → Z H' → Stp F H1 H' → Stp F H H' → Q' y H') → te ((wipe σ [i]).set i (some (kV k))) H Q')
    (k : ∀ D H' ys, H1 D = none → Z H' → Stp F H1 H' → H' D = some (.lst ys) → Paired (R H') ((List.range kvs.length).filter p) ys → Q (.ref D) H') :
    tLc (iKeys (tVar v)) (gName i) tt te [i] σ H1 Q := by
  refine ⟨_, hv, d, o, rfl, .inl ⟨kvs, hd, ?_⟩⟩
  refine lc_rel (H9 := H1) (Q := Q) walk_keys (F := F) Z R p (fun j x => ∃ k w, kvs[j]? = some (k, w) ∧ x = kV k) z1 hF hz (fun H _ s => s.keep _ _ hd hdF) hR hn (fun j H x H' _ hy => ?_) (fun j x H _ hx z s Q' qq => ?_) (fun j x H _ hx hp z s Q' qq => ?_) k
  · obtain ⟨e, kk, w, hk, hx⟩ := hy
    exact ⟨e, kk, w, hk, hx⟩
  · obtain ⟨kk, w, hk, rfl⟩ := hx
    exact ht j kk w H hk z s Q' qq
  · obtain ⟨kk, w, hk, rfl⟩ := hx
    exact he j kk w H hk hp z s Q' qq
end Mx

namespace Mx
open PySem L2
def mx0 (soft : Int) (j : Nat) : MixS := ⟨so3 soft j, 0, [], []⟩
def vput {α : Type} (A : Nat → α) (i : Nat) (a : α) : Nat → α := fun j => if j = i then a else A j
theorem mid_add (soft : Int) (A : Nat → VA) (v : Nat → VoiceS) (i : Nat) (a : VA) (u u0 : VoiceS) (j : Nat) : mid (mx0 soft) (mx3 soft 0 (vput A i a) (vput v i u)) (i + 1) j = sput (sput (mid (mx0 soft) (mx3 soft 0 A v) i) i ⟨so3 soft i, 0, [(1, a, u0)], []⟩) i ⟨so3 soft i, 0, [(1, a, u)], []⟩ j := by
  unfold mid sput mx3 vput
  by_cases e : j = i
  · subst e
    rw [if_pos (by omega), if_pos rfl, if_pos rfl, if_pos rfl]
  · rw [if_neg e, if_neg e, if_neg e, if_neg e]
    by_cases h : j < i
    · exact (if_pos (show j < i + 1 by omega)).trans (if_pos h).symm
    · exact (if_neg (show ¬ j < i + 1 by omega)).trans (if_neg h).symm
set_option hygiene false in
local macro_rules | `(tactic| walk_at "rd") => `(tactic| try simp only [L2.start, List.map_cons, List.map_nil, List.length_cons, List.length_nil, Nat.reduceAdd, Nat.reduceSub, Nat.reduceLT, Nat.reduceLeDiff, List.replicate_succ, List.replicate_zero, List.append_nil, List.nil_append, List.cons_append, List.set_cons_zero, List.set_cons_succ, List.getElem?_cons_zero, List.getElem?_cons_succ,
  Option.some.injEq, List.cons.injEq, and_true, true_and, and_assoc, reduceCtorEq, L2.V.int.injEq, L2.V.ref.injEq, L2.V.bl.injEq, L2.V.str.injEq, L2.V.ty.injEq, L2.HO.ins.injEq, L2.HO.lst.injEq, L2.HO.tup.injEq, L2.HO.dK.injEq, exists_eq_left', exists_eq_left, exists_eq_right, exists_eq', exists_eq, exists_and_left, exists_and_right, reduceIte, Bool.false_eq_true, Bool.not_true, Bool.not_false,
  L2.tSeq, L2.tIfS, L2.tRet, L2.tRetN, L2.tNext, L2.tAsg, L2.gName, L2.tVar, L2.tC, L2.tCons, L2.tNil, L2.tCB, L2.tOp, L2.tUn, L2.tTup, L2.tLst, L2.tB, L2.tOr, L2.tAnd, L2.tNot, L2.tAndV, L2.tOrV, L2.tNotV, L2.tIf, L2.tTest, L2.tChain, L2.rI, L2.rI0, L2.rU, L2.tDrop, L2.tNever, L2.tCall, L2.tMeth, L2.tMake, L2.rGcd, L2.tFld, L2.sFld, L2.sFldAug, Mx.sFldA, Mx.sFldAugA, L2.rAdd, L2.rSub, L2.rEq, L2.rNe, L2.tDGet, L2.tDIn, L2.tDNotIn, L2.sDPut,
  Mx.isi_int_bool, Mx.isi_int_int, Mx.isi_int_tuple, Mx.isi_int_list, Mx.isi_int_str, Mx.scal_int, Mx.scal_str, Mx.scal_bl, Mx.ofString_inj, Mx.ofString_beq, Mx.lk_cons, Mx.pf_nil, Mx.pf_cons, Mx.sz1, Mx.sz2, List.lookup_nil, String.reduceEq, decide_true, decide_false, decide_eq_true_eq, Int.natAbs_natCast, L2.upd_same, L2.upd_upd, L2.cxOf, L2.gSub, L2.tPar, L2.gCons, L2.gNil, Mx.optV, Mx.fsM, L2.tSl, L2.tPart, L2.rSlL])
set_option hygiene false in
local macro_rules | `(tactic| walk_at "rds") => `(tactic| try simp only [L2.start, List.map_cons, List.map_nil, List.length_cons, List.length_nil, Nat.reduceAdd, Nat.reduceSub, Nat.reduceLT, Nat.reduceLeDiff, List.replicate_succ, List.replicate_zero, List.append_nil, List.nil_append, List.cons_append, List.set_cons_zero, List.set_cons_succ, List.getElem?_cons_zero, List.getElem?_cons_succ,
  Option.some.injEq, List.cons.injEq, and_true, true_and, and_assoc, reduceCtorEq, L2.V.int.injEq, L2.V.ref.injEq, L2.V.bl.injEq, L2.V.str.injEq, L2.V.ty.injEq, L2.HO.ins.injEq, L2.HO.lst.injEq, L2.HO.tup.injEq, L2.HO.dK.injEq, exists_eq_left', exists_eq_left, exists_eq_right, exists_eq', exists_eq, exists_and_left, exists_and_right, reduceIte, Bool.false_eq_true, Bool.not_true, Bool.not_false,
  L2.tSeq, L2.tIfS, L2.tRet, L2.tRetN, L2.tNext, L2.tAsg, L2.gName, L2.tVar, L2.tC, L2.tCons, L2.tNil, L2.tCB, L2.tOp, L2.tUn, L2.tTup, L2.tLst, L2.tB, L2.tOr, L2.tAnd, L2.tNot, L2.tAndV, L2.tOrV, L2.tNotV, L2.tIf, L2.tTest, L2.tChain, L2.rI, L2.rI0, L2.rU, L2.tDrop, L2.tNever, L2.tCall, L2.tMeth, L2.tMake, L2.rGcd, L2.tFld, L2.sFld, L2.sFldAug, Mx.sFldA, Mx.sFldAugA, L2.rAdd, L2.rSub, L2.rEq, L2.rNe, L2.tDGet, L2.tDIn, L2.tDNotIn, L2.sDPut,
  Mx.isi_int_bool, Mx.isi_int_int, Mx.isi_int_tuple, Mx.isi_int_list, Mx.isi_int_str, Mx.scal_int, Mx.scal_str, Mx.scal_bl, Mx.ofString_inj, Mx.ofString_beq, Mx.lk_cons, Mx.pf_nil, Mx.pf_cons, Mx.sz1, Mx.sz2, List.lookup_nil, String.reduceEq, decide_true, decide_false, decide_eq_true_eq, Int.natAbs_natCast, L2.upd_same, L2.upd_upd, L2.cxOf, L2.gSub, L2.tPar, L2.gCons, L2.gNil, Mx.optV, Mx.fsM, L2.tSl, L2.tPart, L2.rSlL, *])

section
variable {P : Program} {w : World} {K : PySem.W.Frag} {mg : Str → Option Value} {base : Heap} {cs : Cs}
theorem ad_ok (B : Blt mg) (G : G16 P w K mg base cs) {f : Addr} {cdv : Value} {A0 : Around} {outer : List Env} {s0 : Shared} {H : Hp} {E : XK} (hr : Room 9 (A0.deeper (PyProof.Rows.envOfC "law" (defScope s_law) s0.heap.objs.size f cdv))) :
    ∃ t, PS (XL P w K mg base f cdv A0 outer s0 H E) ((defBody s_law).getD 4 pass0d) t ∧ ∀ (D : Ends) (Hb H1 : Hp) (r sc : Addr) (ns : List Int) (m d k : Nat → Addr) (soft pn pb : Int) (xs : List Int) (nu ml ph : Addr) (x0 x1 x2 x4 x7 x8 x9 x10 x11 x12 x13 x14 x15 x16 x17 x18 x19 x20 : Option V),
      RowAt K Hb r sc ns → Rw K Hb r sc ns H1 → M3 K cs Hb H1 m d k (mx0 soft) → H1 ml = some (.lst (ms3 m)) → Hb ml ≠ none → H1 nu = some (.lst (xs.map V.int)) → Hb nu ≠ none → H1 ph = some (.tup [.int pn, .int pb]) → xs.length = 1000 → (∀ n ∈ xs, -999 ≤ n ∧ n ≤ 999) → 1 ≤ pn ∧ pn ≤ 8 → 1 ≤ pb ∧ pb ≤ 8 →
      (∀ H2 y7 y8 A v, Rw K Hb r sc ns H2 → M3 K cs Hb H2 m d k (mx3 soft 0 A v) → (∀ j, j < 3 → Pr xs pn pb 0 64 1000 (v j)) → H2 ml = some (.lst (ms3 m)) → H2 ph = some (.tup [.int pn, .int pb]) → D.nx [x0, x1, x2, some (.ref ph), x4, some (.ref nu), some (.ref ml), y7, y8, x9, x10, x11, x12, x13, x14, x15, x16, x17, x18, x19, x20] H2) →
      t D [x0, x1, x2, some (.ref ph), x4, some (.ref nu), some (.ref ml), x7, x8, x9, x10, x11, x12, x13, x14, x15, x16, x17, x18, x19, x20] H1 := by
  have nd := sc_law.nd
  have r6 := hr.mono (show 6 ≤ 9 by decide)
  obtain ⟨uP, hP, qP⟩ := pl_ok B G (outer := outer) (H := H) (E := E) hr
  refine ⟨_, (ps_for PassesOwn.never rfl (pi_list (pv 6)) (pg_name (i := 7) nd rfl (.inl rfl))
    (pss_cons (ps_expr (p_meth G.add r6 (pv 7) (pa_cons pe_int (pa_cons (pv 3) (pa_cons pe_int (pa_cons pe_int pa_nil))))))
    (pss_one hP))), ?_⟩
  intro D Hb H1 r sc ns m d k soft pn pb xs nu ml ph x0 x1 x2 x4 x7 x8 x9 x10 x11 x12 x13 x14 x15 x16 x17 x18 x19 x20 hb hw hM hml hmlb hnu hnub hph hxl hxs hpn hpb q
  walk_at "rd"
  refine ⟨_, rfl, ml, rfl, ⟨_, .inl (.inl hml)⟩, ?_⟩
  refine for_list (K := K) (a := ml) (xs := ms3 m) (fun i σ H2 => ∃ y7 y8 A v F, σ = [x0, x1, x2, some (.ref ph), x4, some (.ref nu), some (.ref ml), y7, y8, x9, x10, x11, x12, x13, x14, x15, x16, x17, x18, x19, x20] ∧ M3 K cs Hb H2 m d k (mid (mx0 soft) (mx3 soft 0 A v) i) ∧ (∀ j, j < i → Pr xs pn pb 0 64 1000 (v j)) ∧ Stp F H1 H2 ∧ (∀ b ∈ F, Hb b = none))
    ⟨_, _, (fun _ => ⟨0, 0, 0, 0⟩), (fun _ => VoiceS.new 1 1 0 0), [], rfl, hM.re fun j _ => if_neg (Nat.not_lt_zero j), fun j hj => absurd hj (Nat.not_lt_zero j), Stp.refl, by simp⟩ (fun i σ H2 _ h => ?_) (fun i x σ H2 hx h => ?_) (fun σ H2 h => ?_)
  · obtain ⟨_, _, _, _, F, _, _, _, s2, hF⟩ := h
    exact .inl (.inl (s2.keep _ _ hml fun z => hmlb (hF ml z)))
  · obtain ⟨y7, y8, A, v, F, rfl, hM2, hP2, s2, hF⟩ := h
    obtain ⟨hi, rfl⟩ := ms3_at hx
    have hw2 := hw.mv hb s2 hF
    have hMi := hM2.at_ i hi
    rw [mid_at] at hMi
    obtain ⟨dxm, hm⟩ := id hMi.ob
    have hfi : (mid (mx0 soft) (mx3 soft 0 A v) i i).foot (m i) (d i) (k i) = [m i, d i, k i] := by rw [mid_at]; rfl
    have hfb := hM2.fr i hi
    rw [hfi] at hfb
    walk_at "rd"
    refine ⟨dxm, _, hm, by walk_at "rd", m i, d i, k i, ph, mx0 soft i, 1, pn, pb, 0, 64, rfl, hMi, by show (1 : Int) ∉ []; simp, by decide, by decide, s2.tup _ _ hph, hpn, hpb, by decide, by decide, by show 0 ≤ 100; decide, fun a H3 hA0 hM3 s3 => ?_⟩
    have hM3' : MixAt K cs H3 (m i) (d i) (k i) ⟨so3 soft i, 0, [(1, a, VoiceS.new pn pb 0 64)], []⟩ := hM3
    have hM4 := hM2.step hi s3 (fun b hb => .inl (by rw [hfi]; rw [List.mem_singleton.mp hb]; simp)) hM3' (fun b hb => by
      rw [foot1] at hb
      rw [hfi]
      simp only [List.mem_cons] at hb
      rcases hb with z | z | z | z
      · exact .inl (by simp [z])
      · exact .inl (by simp [z])
      · exact .inl (by simp [z])
      · exact .inr (hA0 b z)) (fun b hb => hw2.fr hb)
    have hw3 := hw2.mv hb s3 fun b hb => by rw [List.mem_singleton.mp hb]; exact hfb _ (by simp)
    have hnu2 := s2.keep _ _ hnu fun z => hnub (hF nu z)
    have hnu3 := s3.keep _ _ hnu2 fun z => hnub (by rw [List.mem_singleton.mp z]; exact hfb _ (by simp))
    refine qP _ Hb H3 m d k (sput (mid (mx0 soft) (mx3 soft 0 A v) i) i ⟨so3 soft i, 0, [(1, a, VoiceS.new pn pb 0 64)], []⟩) i nu a (VoiceS.new pn pb 0 64) (so3 soft i) pn pb xs _ _ _ _ _ _ _ _ _ _ _ _ _ _ _ _ _ _ _ hM4 hi (sput_same _ _ _) ⟨[], 0, rfl, ?_, by simp, by simp, by omega, by omega⟩ hxl hxs hnu3 hnub (fun b hb => hw3.fr hb) fun H4 y8' v' hM5 hP5 s5 => ?_
    · intro i
      rw [if_neg (by omega)]
      rfl
    refine ⟨⟨_, _, rfl⟩, vput A i a, vput v i v', hM5.re fun j _ => mid_add soft A v i a v' _ j, fun j hj => ?_, F ++ ([d i] ++ (sput (mid (mx0 soft) (mx3 soft 0 A v) i) i ⟨so3 soft i, 0, [(1, a, VoiceS.new pn pb 0 64)], []⟩ i).foot (m i) (d i) (k i)), s2.trans (s3.trans s5), fun b hb => ?_⟩
    · unfold vput
      by_cases e : j = i
      · rw [if_pos e]
        exact hP5
      · rw [if_neg e]
        exact hP2 j (by omega)
    · rcases List.mem_append.mp hb with z | z
      · exact hF b z
      rcases List.mem_append.mp z with z | z
      · rw [List.mem_singleton.mp z]
        exact hfb _ (by simp)
      · rw [sput_same, foot1] at z
        simp only [List.mem_cons] at z
        rcases z with z | z | z | z
        · exact hfb b (by simp [z])
        · exact hfb b (by simp [z])
        · exact hfb b (by simp [z])
        · exact hw2.fr (hA0 b z)
  · obtain ⟨y7, y8, A, v, F, rfl, hM2, hP2, s2, hF⟩ := h
    refine q H2 y7 y8 A v (hw.mv hb s2 hF) (hM2.re fun j hj => ?_) (fun j hj => hP2 j ?_) (s2.keep _ _ hml fun z => hmlb (hF ml z)) (s2.tup _ _ hph)
    · rw [show (ms3 m).length = 3 from ms3_len m]
      exact (if_pos hj).symm
    · rw [show (ms3 m).length = 3 from ms3_len m]
      exact hj
end
end Mx

namespace Mx
open PySem L2
def p3 (a b c : Addr) : Nat → Addr
  | 0 => a
  | 1 => b
  | _ => c
theorem M3.mk3 {K : PySem.W.Frag} {cs : Cs} {Hb H : Hp} {soft : Int} {m0 d0 k0 m1 d1 k1 m2 d2 k2 : Addr} (h0 : MixAt K cs H m0 d0 k0 ⟨1, 0, [], []⟩) (h1 : MixAt K cs H m1 d1 k1 ⟨soft, 0, [], []⟩) (h2 : MixAt K cs H m2 d2 k2 ⟨soft, 0, [], []⟩) (f0 : ∀ b ∈ [m0, d0, k0], Hb b = none) (f1 : ∀ b ∈ [m1, d1, k1], Hb b = none) (f2 : ∀ b ∈ [m2, d2, k2], Hb b = none) (j01 : ∀ b ∈ [m0, d0, k0], b ∉ [m1, d1, k1]) (j02 : ∀ b ∈ [m0, d0, k0], b ∉ [m2, d2, k2]) (j12 : ∀ b ∈ [m1, d1, k1], b ∉ [m2, d2, k2]) : M3 K cs Hb H (p3 m0 m1 m2) (p3 d0 d1 d2) (p3 k0 k1 k2) (mx0 soft) := by
  have c3 : ∀ {j : Nat}, j < 3 → j = 0 ∨ j = 1 ∨ j = 2 := fun h => by omega
  refine ⟨fun j hj => ?_, fun j hj b hb => ?_, fun i j hi hj hij b hb hb' => ?_⟩
  · rcases c3 hj with rfl | rfl | rfl
    · exact h0
    · exact h1
    · exact h2
  · rcases c3 hj with rfl | rfl | rfl
    · exact f0 b hb
    · exact f1 b hb
    · exact f2 b hb
  · rcases c3 hi with rfl | rfl | rfl <;> rcases c3 hj with rfl | rfl | rfl
    · exact hij rfl
    · exact j01 b hb hb'
    · exact j02 b hb hb'
    · exact j01 b hb' hb
    · exact hij rfl
    · exact j12 b hb hb'
    · exact j02 b hb' hb
    · exact j12 b hb' hb
    · exact hij rfl
theorem stp_in {F : List Addr} {H0 H : Hp} {a : Addr} {l : List V} (s : Stp F H0 H) (h : H a = some (.lst l)) : Stp F (upd H0 a (.lst l)) H := by
  refine ⟨fun b o e n => ?_, fun b xs e => ?_⟩
  · by_cases z : b = a
    · subst z
      rw [upd_same] at e
      rw [h, e]
    · rw [upd_ne z] at e
      exact s.keep b o e n
  · by_cases z : b = a
    · subst z
      rw [upd_same] at e
      cases e
    · rw [upd_ne z] at e
      exact s.tup b xs e
/-- the three voices as they stand before the first beat -/
theorem z16_new {K : PySem.W.Frag} {cs : Cs} {Hb H : Hp} {m d k : Nat → Addr} {soft pn pb : Int} {xs : List Int} {A : Nat → VA} {v : Nat → VoiceS} (hM : M3 K cs Hb H m d k (sput (mx3 soft 0 A v) 2 ⟨soft, 0, [(1, A 2, { v 2 with heard := false })], []⟩)) (hP : ∀ j, j < 3 → Pr xs pn pb 0 64 1000 (v j)) (hpn : 1 ≤ pn ∧ pn ≤ 8) (hpb : 1 ≤ pb ∧ pb ≤ 8) :
    Z16 K cs Hb H m d k soft pn pb xs 0 A (vput v 2 { v 2 with heard := false }) ⟨mkRat 64 64, 0, 0⟩ 7 := by
  have at2 : vput v 2 { v 2 with heard := false } 2 = { v 2 with heard := false } := rfl
  have hl : ∀ j, LineOk (v j).line → LineOk (vput v 2 { v 2 with heard := false } j).line := fun j h => by
    unfold vput
    by_cases e : j = 2
    · rw [if_pos e]
      rw [e] at h
      exact h
    · rw [if_neg e]
      exact h
  have key : ∀ j, j < 3 → LF xs pn pb (vput v 2 { v 2 with heard := false } j).line ∧ (vput v 2 { v 2 with heard := false } j).loud = ⟨mkRat 64 64, 0, 0⟩ ∧ (vput v 2 { v 2 with heard := false } j).word = wH ∧ (vput v 2 { v 2 with heard := false } j).part = 0 ∧ LineOk (vput v 2 { v 2 with heard := false } j).line := fun j hj => by
    obtain ⟨c, re, e, hc, hin, hlen, _, _⟩ := hP j hj
    have lo : LineOk (v j).line := by rw [e]; exact ⟨hpn.1, hpn.2, hpb.1, hpb.2, hin, by show c.length ≤ 100000; omega⟩
    refine ⟨?_, ?_, ?_, ?_, hl j lo⟩
    all_goals
      unfold vput
      by_cases e2 : j = 2
      · rw [if_pos e2]
        subst e2
        rw [e]
        try first | exact ⟨rfl, rfl, rfl, rfl, hc⟩ | rfl
      · rw [if_neg e2, e]
        try first | exact ⟨rfl, rfl, rfl, rfl, hc⟩ | rfl
  have he : ∀ j, j < 2 → (vput v 2 { v 2 with heard := false } j).heard = true := fun j hj => by
    obtain ⟨c, re, e, _⟩ := hP j (by omega)
    unfold vput
    rw [if_neg (by omega), e]
  refine ⟨hM.re fun j hj => ?_, fun j hj => (key j hj).1, fun j hj => (key j hj).2.1, ⟨he 0 (by decide), fun _ => (key 0 (by decide)).2.2.1, fun z => absurd z (by decide), fun z => absurd z (by decide)⟩, ⟨he 1 (by decide), fun _ => (key 1 (by decide)).2.2.1, fun z => absurd z (by decide), fun z => absurd z (by decide)⟩, ⟨rfl, (key 2 (by decide)).2.2.1, (key 2 (by decide)).2.2.2.1⟩, fun j hj => new_ok (n := 64) (key j hj).2.2.2.2 (by decide) (by decide) (key j hj).2.1 (key j hj).2.2.1 (key j hj).2.2.2.1⟩
  unfold sput mx3 vput
  by_cases e : j = 2
  · subst e
    rfl
  · rw [if_neg e, if_neg e]
    rfl
set_option hygiene false in
local macro_rules | `(tactic| walk_at "rd") => `(tactic| try simp only [L2.start, List.map_cons, List.map_nil, List.length_cons, List.length_nil, Nat.reduceAdd, Nat.reduceSub, Nat.reduceLT, Nat.reduceLeDiff, List.replicate_succ, List.replicate_zero, List.append_nil, List.nil_append, List.cons_append, List.set_cons_zero, List.set_cons_succ, List.getElem?_cons_zero, List.getElem?_cons_succ,
  Option.some.injEq, List.cons.injEq, and_true, true_and, and_assoc, reduceCtorEq, L2.V.int.injEq, L2.V.ref.injEq, L2.V.bl.injEq, L2.V.str.injEq, L2.V.ty.injEq, L2.HO.ins.injEq, L2.HO.lst.injEq, L2.HO.tup.injEq, L2.HO.dK.injEq, exists_eq_left', exists_eq_left, exists_eq_right, exists_eq', exists_eq, exists_and_left, exists_and_right, reduceIte, Bool.false_eq_true, Bool.not_true, Bool.not_false,
  L2.tSeq, L2.tIfS, L2.tRet, L2.tRetN, L2.tNext, L2.tAsg, L2.gName, L2.tVar, L2.tC, L2.tCons, L2.tNil, L2.tCB, L2.tOp, L2.tUn, L2.tTup, L2.tLst, L2.tB, L2.tOr, L2.tAnd, L2.tNot, L2.tAndV, L2.tOrV, L2.tNotV, L2.tIf, L2.tTest, L2.tChain, L2.rI, L2.rI0, L2.rU, L2.tDrop, L2.tNever, L2.tCall, L2.tMeth, L2.tMake, L2.rGcd, L2.tFld, L2.sFld, L2.sFldAug, Mx.sFldA, Mx.sFldAugA, L2.rAdd, L2.rSub, L2.rEq, L2.rNe, L2.tDGet, L2.tDIn, L2.tDNotIn, L2.sDPut,
  Mx.isi_int_bool, Mx.isi_int_int, Mx.isi_int_tuple, Mx.isi_int_list, Mx.isi_int_str, Mx.scal_int, Mx.scal_str, Mx.scal_bl, Mx.ofString_inj, Mx.ofString_beq, Mx.lk_cons, Mx.pf_nil, Mx.pf_cons, Mx.sz1, Mx.sz2, List.lookup_nil, String.reduceEq, decide_true, decide_false, decide_eq_true_eq, Int.natAbs_natCast, L2.upd_same, L2.upd_upd, L2.cxOf, L2.gSub, L2.tPar, L2.tPar3, L2.gCons, L2.gNil, Mx.optV, Mx.fsM, L2.tSl, L2.tPart, L2.rSlL])
set_option hygiene false in
local macro_rules | `(tactic| walk_at "rds") => `(tactic| try simp only [L2.start, List.map_cons, List.map_nil, List.length_cons, List.length_nil, Nat.reduceAdd, Nat.reduceSub, Nat.reduceLT, Nat.reduceLeDiff, List.replicate_succ, List.replicate_zero, List.append_nil, List.nil_append, List.cons_append, List.set_cons_zero, List.set_cons_succ, List.getElem?_cons_zero, List.getElem?_cons_succ,
  Option.some.injEq, List.cons.injEq, and_true, true_and, and_assoc, reduceCtorEq, L2.V.int.injEq, L2.V.ref.injEq, L2.V.bl.injEq, L2.V.str.injEq, L2.V.ty.injEq, L2.HO.ins.injEq, L2.HO.lst.injEq, L2.HO.tup.injEq, L2.HO.dK.injEq, exists_eq_left', exists_eq_left, exists_eq_right, exists_eq', exists_eq, exists_and_left, exists_and_right, reduceIte, Bool.false_eq_true, Bool.not_true, Bool.not_false,
  L2.tSeq, L2.tIfS, L2.tRet, L2.tRetN, L2.tNext, L2.tAsg, L2.gName, L2.tVar, L2.tC, L2.tCons, L2.tNil, L2.tCB, L2.tOp, L2.tUn, L2.tTup, L2.tLst, L2.tB, L2.tOr, L2.tAnd, L2.tNot, L2.tAndV, L2.tOrV, L2.tNotV, L2.tIf, L2.tTest, L2.tChain, L2.rI, L2.rI0, L2.rU, L2.tDrop, L2.tNever, L2.tCall, L2.tMeth, L2.tMake, L2.rGcd, L2.tFld, L2.sFld, L2.sFldAug, Mx.sFldA, Mx.sFldAugA, L2.rAdd, L2.rSub, L2.rEq, L2.rNe, L2.tDGet, L2.tDIn, L2.tDNotIn, L2.sDPut,
  Mx.isi_int_bool, Mx.isi_int_int, Mx.isi_int_tuple, Mx.isi_int_list, Mx.isi_int_str, Mx.scal_int, Mx.scal_str, Mx.scal_bl, Mx.ofString_inj, Mx.ofString_beq, Mx.lk_cons, Mx.pf_nil, Mx.pf_cons, Mx.sz1, Mx.sz2, List.lookup_nil, String.reduceEq, decide_true, decide_false, decide_eq_true_eq, Int.natAbs_natCast, L2.upd_same, L2.upd_upd, L2.cxOf, L2.gSub, L2.tPar, L2.tPar3, L2.gCons, L2.gNil, Mx.optV, Mx.fsM, L2.tSl, L2.tPart, L2.rSlL, *])

section
variable {P : Program} {w : World} {K : PySem.W.Frag} {mg : Str → Option Value} {base : Heap} {cs : Cs}
theorem ok_law {f : Addr} {fd : FuncData} (B : Blt mg) (G : G16 P w K mg base cs) (F : Fun K "law" "law" s_law f fd) : FnOk P w K mg base CX0 10 f fd ["_law_script"] (sp_law K) := by
  refine F.ok sc_law (fun vs H Q E h => ?_) (fun cdv A0 outer s0 H vs Q E hr h => ?_)
  · obtain ⟨a, ns, rfl, _⟩ := h
    rfl
  · obtain ⟨sc, ns, rfl, hsq, hns, kk⟩ := h
    have nd := sc_law.nd
    have r1 := hr.mono (show 1 ≤ 9 by decide)
    have r2 := hr.mono (show 2 ≤ 9 by decide)
    have r4 := hr.mono (show 4 ≤ 9 by decide)
    have hu64 : (A0.deeper (PyProof.Rows.envOfC "law" (defScope s_law) s0.heap.objs.size f cdv)).units + 64 < cLine := by
      have := hr.un
      omega
    obtain ⟨uA, hA, qA⟩ := ad_ok B G (outer := outer) (H := H) (E := E) hr
    obtain ⟨uB, hB, qB⟩ := b_ok B G (outer := outer) (H := H) (E := E) hr
    refine ⟨_, (pss_cons (ps_set (i := 1) nd rfl (.inr rfl) (pe_lst (pa_cons (pv 0) (pa_cons pe_int (pa_cons pe_int pa_nil)))))
      (pss_cons (ps_par (i := 2) (j := 3) (by rfl) nd rfl rfl (by decide) rfl rfl (pa_cons (pe_op op_add pe_int (p_call G.taken r1 (pa_cons (pv 1) (pa_cons pe_int pa_nil)))) (pa_cons (p_call G.pace r2 (pa_cons (pv 1) pa_nil)) pa_nil)) (by rfl))
      (pss_cons (ps_setLc (i := 5) (own := [("_law_k", 4)]) (te := tCall (sp_drawn K (-999) 999) [] E0 (tCons (tVar 1) tNil)) rfl nd rfl rfl (sw_true rfl rfl rfl (by decide +kernel)) (pi_range1 (by rfl) B.range (pa_cons pe_int pa_nil)) (blkOk_by (N := N16) (sc := defScope s_law) (by decide +kernel)) (fun _ _ _ _ _ => pg_name (i := 4) nd rfl (.inl rfl)) (fun _ _ _ _ _ => pts_nil) (fun _ _ _ _ _ => p_call G.number r2 (pa_cons (pv 1) pa_nil)))
      (pss_cons (ps_set (i := 6) nd rfl (.inl rfl) (pe_lst (pa_cons (p_make G.mixer r4 (pa_cons pe_int pa_nil)) (pa_cons (p_make G.mixer r4 (pa_cons (pv 2) pa_nil)) (pa_cons (p_make G.mixer r4 (pa_cons (pv 2) pa_nil)) pa_nil)))))
      (pss_cons hA
      (pss_cons (ps_expr (p_meth G.hush r4 (pe_ix ix_list (pv 6) pe_int (fun _ _ => rfl)) (pa_cons pe_int pa_nil)))
      (pss_cons (ps_asg (pe_tup (pa_cons (pe_tup (pa_cons pe_int (pa_cons pe_int pa_nil))) (pa_cons (pe_tup (pa_cons pe_int (pa_cons pe_int pa_nil))) (pa_cons pe_int (pa_cons pe_int pa_nil))))) (pg_tup rfl (pgs_cons (pg_name (i := 9) nd rfl (.inl rfl)) (pgs_cons (pg_name (i := 10) nd rfl (.inl rfl)) (pgs_cons (pg_name (i := 11) nd rfl (.inl rfl)) (pgs_cons (pg_name (i := 12) nd rfl (.inl rfl)) pgs_nil))))))
      (pss_cons (ps_set (i := 13) nd rfl (.inl rfl) (pe_callB (call_min2 rfl) (by rfl) G.min PyProof.Rows.boot_min (pa_cons (pe_op op_fdiv (pe_op op_mul pe_int (pe_ix ix_tup (pv 3) pe_int (fun _ _ => rfl))) (pe_ix ix_tup (pv 3) pe_int (fun _ _ => rfl))) (pa_cons (pe_ix ix_list (pe_lst (pa_cons pe_int (pa_cons pe_int (pa_cons pe_int pa_nil)))) (p_call G.taken r1 (pa_cons (pv 1) (pa_cons pe_int pa_nil))) (fun _ _ => rfl)) pa_nil))))
      (pss_cons (ps_for PassesOwn.never rfl (pi_range1 (by rfl) B.range (pa_cons (pv 13) pa_nil)) (pg_name (i := 14) nd rfl (.inl rfl)) hB)
      (pss_one (ps_ret (pe_cmpR (op_eqD hu64) (pe_lc (own := [("_law_mixer", 7)]) (te := tMeth cs.M "missed" (sp_Mixer_missed K cs) [] E0 (tVar 7) tNil) rfl nd (pi_list (pv 6)) (blkOk_by (N := N16) (sc := defScope s_law) (by decide +kernel)) (fun _ _ _ _ _ => pg_name (i := 7) nd rfl (.inl rfl)) (fun _ _ _ _ _ => pts_nil) (fun _ _ _ _ _ => p_meth0 G.missed r1 (pv 7))) (pe_lst (pa_cons (pe_lst pa_nil) (pa_cons (pe_lst pa_nil) (pa_cons (pe_lst pa_nil) pa_nil)))) (nomark _))))))))))))), ?_⟩
    walk_at "rd"
    refine ⟨by decide, fun r hr0 => ?_⟩
    have hsr : sc ≠ r ∨ ∀ H', SqL K H' sc (ns.map V.int) := by
      rcases hsq with (q | ⟨o, q⟩) | q
      · exact .inl (ne_of_none q hr0)
      · exact .inl (ne_of_none q hr0)
      · exact .inr fun H' => .inr q
    have hb0 : RowAt K (upd H r (.lst [.ref sc, .int 0, .int 0])) r sc ns := ⟨0, 0, by decide, by decide, by decide, upd_same, seq_st hsq (Stp.new hr0) (by simp), hsr⟩
    generalize upd H r (.lst [.ref sc, .int 0, .int 0]) = H0 at *
    walk_at "rd"
    refine ⟨r, sc, ns, 16, rfl, hb0, by decide, fun sf H1 sf0 sf1 hR1 s1 => ⟨_, rfl, ?_⟩⟩
    obtain ⟨soft, hsoft⟩ : ∃ soft, soft = 1 + sf := ⟨_, rfl⟩
    have so1 : 1 ≤ soft := by omega
    have so2 : soft ≤ 16 := by omega
    rw [← hsoft]
    refine ⟨r, sc, ns, rfl, hR1, fun ph H2 pn pb hph0 pn0 pn1 pb0 pb1 hR2 s2 hph => ?_⟩
    refine lc_rowI (-999) 999 hR2 (n := 1000) (by decide) (fun R h => h) (fun x H3 hR3 Q' qq => ⟨_, rfl, r, sc, ns, rfl, hR3, fun v H4 v0 v1 hR4 s4 => qq v H4 v0 v1 hR4 s4⟩) fun nu H3 xs hnu0 hR3 s3 hnu hxl hxs => ?_
    have hph3 := s3.tup _ _ hph
    clear hb0 hR1 hR2 s1 s2 s3 hph
    intro m0 dx0 hm0 hdx0 hne0
    have t1 := stp_made (C := cs.M) hm0 hdx0
    have e1 : upd (upd H3 dx0 (.own m0)) m0 (.ins cs.M dx0 []) m0 = some (.ins cs.M dx0 []) := upd_same
    generalize upd (upd H3 dx0 (.own m0)) m0 (.ins cs.M dx0 []) = H4 at *
    refine ⟨m0, dx0, 1, rfl, e1, by decide, by decide, fun d0 k0 H5 hd0 hk0 hM0 u1 => ⟨rfl, ?_⟩⟩
    have g1 : Stp [] H3 H5 := (t1.trans u1).subN fun b hb => .inr (by
      have : b = m0 := by simpa using hb
      rw [this]; exact hm0)
    have f0 : ∀ b ∈ [m0, d0, k0], H3 b = none := fun b hb => by
      simp only [List.mem_cons, List.not_mem_nil, or_false] at hb
      rcases hb with z | z | z
      · rw [z]; exact hm0
      · rw [z]; exact t1.free hd0 (by simp)
      · rw [z]; exact t1.free hk0 (by simp)
    clear t1 u1 e1 hm0 hdx0 hd0 hk0 hne0
    intro m1 dx1 hm1 hdx1 hne1
    have t2 := stp_made (C := cs.M) hm1 hdx1
    have e2 : upd (upd H5 dx1 (.own m1)) m1 (.ins cs.M dx1 []) m1 = some (.ins cs.M dx1 []) := upd_same
    generalize upd (upd H5 dx1 (.own m1)) m1 (.ins cs.M dx1 []) = H6 at *
    refine ⟨m1, dx1, soft, rfl, e2, so1, so2, fun d1 k1 H7 hd1 hk1 hM1 u2 => ⟨rfl, ?_⟩⟩
    have g2 : Stp [] H5 H7 := (t2.trans u2).subN fun b hb => .inr (by
      have : b = m1 := by simpa using hb
      rw [this]; exact hm1)
    have f1 : ∀ b ∈ [m1, d1, k1], H5 b = none := fun b hb => by
      simp only [List.mem_cons, List.not_mem_nil, or_false] at hb
      rcases hb with z | z | z
      · rw [z]; exact hm1
      · rw [z]; exact t2.free hd1 (by simp)
      · rw [z]; exact t2.free hk1 (by simp)
    clear t2 u2 e2 hm1 hdx1 hd1 hk1 hne1
    intro m2 dx2 hm2 hdx2 hne2
    have t3 := stp_made (C := cs.M) hm2 hdx2
    have e3 : upd (upd H7 dx2 (.own m2)) m2 (.ins cs.M dx2 []) m2 = some (.ins cs.M dx2 []) := upd_same
    generalize upd (upd H7 dx2 (.own m2)) m2 (.ins cs.M dx2 []) = H8 at *
    refine ⟨m2, dx2, soft, rfl, e3, so1, so2, fun d2 k2 H9 hd2 hk2 hM2 u3 => ⟨rfl, ?_⟩⟩
    have g3 : Stp [] H7 H9 := (t3.trans u3).subN fun b hb => .inr (by
      have : b = m2 := by simpa using hb
      rw [this]; exact hm2)
    have f2 : ∀ b ∈ [m2, d2, k2], H7 b = none := fun b hb => by
      simp only [List.mem_cons, List.not_mem_nil, or_false] at hb
      rcases hb with z | z | z
      · rw [z]; exact hm2
      · rw [z]; exact t3.free hd2 (by simp)
      · rw [z]; exact t3.free hk2 (by simp)
    clear t3 u3 e3 hm2 hdx2 hd2 hk2 hne2
    walk_at "rd"
    refine ⟨by decide, fun ml hml0 => ?_⟩
    have g123 : Stp [] H3 H9 := (g1.trans (g2.trans g3)).sub (by simp)
    have hml3 : H3 ml = none := g123.free hml0 (by simp)
    have hMa := (hM0.st0 g2).st0 g3
    have hMb := hM1.st0 g3
    have mem0 : ∀ b ∈ [m0, d0, k0], H5 b ≠ none ∧ H9 b ≠ none := fun b hb => ⟨hM0.some b hb, hMa.some b hb⟩
    have mem1 : ∀ b ∈ [m1, d1, k1], H7 b ≠ none ∧ H9 b ≠ none := fun b hb => ⟨hM1.some b hb, hMb.some b hb⟩
    have mem2 : ∀ b ∈ [m2, d2, k2], H9 b ≠ none := fun b hb => hM2.some b hb
    obtain ⟨Hb, eHb⟩ : ∃ Hb, Hb = upd H3 ml (.lst [.ref m0, .ref m1, .ref m2]) := ⟨_, rfl⟩
    have hbn : ∀ b, H3 b = none → b ≠ ml → Hb b = none := fun b h n => by rw [eHb, upd_ne n]; exact h
    have s10 := Stp.new (o := .lst [.ref m0, .ref m1, .ref m2]) hml0
    have hml : upd H9 ml (.lst [.ref m0, .ref m1, .ref m2]) ml = some (.lst [.ref m0, .ref m1, .ref m2]) := upd_same
    generalize upd H9 ml (.lst [.ref m0, .ref m1, .ref m2]) = H10 at *
    have g10 : Stp [] H3 H10 := (g123.trans s10).sub (by simp)
    have hsb : Stp [] Hb H10 := by rw [eHb]; exact stp_in g10 hml
    have hRb : RowAt K Hb r sc ns := by rw [eHb]; exact hR3.st0 (Stp.new hml3)
    have hw10 : Rw K Hb r sc ns H10 := ⟨hR3.st0 g10, hsb.sub (by simp)⟩
    have hmlb : Hb ml ≠ none := by rw [eHb, upd_same]; exact nofun
    have hnub : Hb nu ≠ none := by
      rw [eHb, upd_ne (fun z => by rw [z, hml3] at hnu; cases hnu), hnu]
      exact nofun
    have hM10 : M3 K cs Hb H10 (p3 m0 m1 m2) (p3 d0 d1 d2) (p3 k0 k1 k2) (mx0 soft) := by
      refine M3.mk3 (hMa.st0 s10) (hMb.st0 s10) (hM2.st0 s10) (fun b hb => hbn b (f0 b hb) ?_) (fun b hb => hbn b (g1.free (f1 b hb) (by simp)) ?_) (fun b hb => hbn b ((g1.trans g2).free (f2 b hb) (by simp)) ?_) (fun b hb z => (mem0 b hb).1 (f1 b z)) (fun b hb z => (mem0 b hb).1 (g2.free (f2 b z) (by simp))) (fun b hb z => (mem1 b hb).1 (f2 b z))
      · exact fun z => (mem0 b hb).2 (z ▸ hml0)
      · exact fun z => (mem1 b hb).2 (z ▸ hml0)
      · exact fun z => mem2 b hb (z ▸ hml0)
    refine qA _ Hb H10 r sc ns _ _ _ soft pn pb xs nu ml ph _ _ _ _ _ _ _ _ _ _ _ _ _ _ _ _ _ _ hRb hw10 hM10 hml hmlb (g10.keep _ _ hnu (by simp)) hnub (g10.tup _ _ hph3) hxl hxs ⟨pn0, pn1⟩ ⟨pb0, pb1⟩ fun H11 y7 y8 A v hw11 hM11 hP11 hml11 hph11 => ?_
    clear hM10 hw10 hsb g10 hml s10 mem0 mem1 mem2 hMa hMb g123 f0 f1 f2 g1 g2 g3 hM0 hM1 hM2
    walk_at "rd"
    have hM2 := hM11.at_ 2 (by decide)
    obtain ⟨dxm, hm2⟩ := id hM2.ob
    have hml11' : H11 ml = some (.lst [.ref m0, .ref m1, .ref m2]) := hml11
    refine ixL (.inl (.inl hml11')) (x := .ref m2) rfl ⟨m2, rfl, dxm, _, hm2, by walk_at "rd", m2, d2, k2, mx3 soft 0 A v 2, (1, A 2, v 2), rfl, hM2, List.mem_cons_self, by show (0 : Int) ≤ 1; decide, by show (1 : Int) ≤ 5; decide, fun H12 hM12 s12 => ?_⟩
    have hM12' : MixAt K cs H12 m2 d2 k2 ⟨soft, 0, [(1, A 2, { v 2 with heard := false })], []⟩ := hM12
    have hM12a := hM11.step (by decide : 2 < 3) s12 (fun b hb => .inl (by rw [foot3]; simp [show b ∈ (A 2).foot from hb])) hM12' (fun b hb => .inl hb) (fun b hb => hw11.fr hb)
    have hZ12 := z16_new hM12a hP11 ⟨pn0, pn1⟩ ⟨pb0, pb1⟩
    have f2b : ∀ b ∈ (A 2).foot, Hb b = none := fun b hb => hM11.fr 2 (by decide) b (by rw [foot3]; simp [hb])
    have hw12 := hw11.mv hRb s12 f2b
    have hml12 : H12 ml = some (.lst (ms3 (p3 m0 m1 m2))) := s12.keep _ _ hml11 fun z => hmlb (f2b ml z)
    have hph12 := s12.tup _ _ hph11
    clear hM12 hM12' hM12a hM2 hm2 hM11 hw11 hml11 hml11' hph11 s12 f2b
    intro pa hpa
    have t1 := Stp.new (o := .tup [.int 1, .int 1]) hpa
    have e1 : upd H12 pa (.tup [.int 1, .int 1]) pa = some (.tup (frac 1)) := upd_same
    generalize upd H12 pa (.tup [.int 1, .int 1]) = H13 at *
    intro pb' hpb'
    have t2 := Stp.new (o := .tup [.int 1, .int 1]) hpb'
    have e2 : upd H13 pb' (.tup [.int 1, .int 1]) pb' = some (.tup (frac 1)) := upd_same
    have e12 := t2.tup _ _ e1
    generalize upd H13 pb' (.tup [.int 1, .int 1]) = H14 at *
    refine ⟨by decide, fun pc hpc => ?_⟩
    have t3 := Stp.new (o := .tup [.ref pa, .ref pb', .int 1, .int 1]) hpc
    have e3 : upd H14 pc (.tup [.ref pa, .ref pb', .int 1, .int 1]) pc = some (.tup [.ref pa, .ref pb', .int 1, .int 1]) := upd_same
    have e13 := t3.tup _ _ e12
    have e23 := t3.tup _ _ e2
    generalize upd H14 pc (.tup [.ref pa, .ref pb', .int 1, .int 1]) = H15 at *
    have g15 : Stp [] H12 H15 := (t1.trans (t2.trans t3)).sub (by simp)
    refine ⟨pc, _, rfl, .inl (.inl e3), rfl, _, _, rfl, _, _, rfl, _, _, rfl, _, _, rfl, rfl, ?_⟩
    simp only [List.set_cons_zero, List.set_cons_succ]
    have hw15 := hw12.st0 hRb g15
    have hZ15 := hZ12.mv (hZ12.m3.st0 g15)
    have hml15 := g15.keep _ _ hml12 (by simp)
    have hph15 := g15.tup _ _ hph12
    walk_at "rd"
    have dn : (pn : Int) ≠ 0 := by omega
    refine ixT (.inl hph15) (x := .int pb) rfl ⟨pb, rfl, .inl ⟨by decide, by omega⟩, ixT (.inl hph15) (x := .int pn) rfl ⟨pn, rfl, ⟨by omega, by omega⟩, by decide, fun p1 hp1 => ?_⟩⟩
    have t4 := Stp.new (o := .lst [.int 100, .int 100, .int 995]) hp1
    have e4 : upd H15 p1 (.lst [.int 100, .int 100, .int 995]) p1 = some (.lst [.int 100, .int 100, .int 995]) := upd_same
    have hw16 := hw15.st0 hRb t4
    generalize upd H15 p1 (.lst [.int 100, .int 100, .int 995]) = H16 at *
    refine ⟨r, sc, ns, 3, rfl, hw16.1, by decide, fun ix H17 i0 i1 hR17 s17 => ?_⟩
    obtain ⟨c, c0, c1, hat⟩ : ∃ c : Int, 1 ≤ c ∧ c ≤ 995 ∧ atI [V.int 100, V.int 100, V.int 995] ix = some (.int c) := by
      rcases (show ix = 0 ∨ ix = 1 ∨ ix = 2 by omega) with rfl | rfl | rfl
      · exact ⟨100, by decide, by decide, rfl⟩
      · exact ⟨100, by decide, by decide, rfl⟩
      · exact ⟨995, by decide, by decide, rfl⟩
    have hrt := row_there hRb
    have hmlr : ml ≠ r := fun z => by
      obtain ⟨_, _, _, _, _, z1, _⟩ := hw15.1
      rw [z, z1] at hml15
      have := congrArg (fun o : Option HO => match o with | some (.lst l) => l[1]? | _ => none) hml15
      cases this
    have hp1r : p1 ≠ r := row_ne hw15.1 hp1
    refine ixL (.inl (.inl (s17.keep _ _ e4 (by simpa using hp1r)))) hat ⟨c, rfl, ?_⟩
    have hq0 : 0 ≤ 995 * pb / pn := Int.ediv_nonneg (by omega) (by omega)
    obtain ⟨most, hmost⟩ : ∃ most, most = if c < 995 * pb / pn then c else 995 * pb / pn := ⟨_, rfl⟩
    rw [← hmost]
    have mo0 : 0 ≤ most := by rw [hmost]; split <;> omega
    have mo1 : most ≤ 995 := by rw [hmost]; split <;> omega
    have mo2 : most ≤ 995 * pb / pn := by rw [hmost]; split <;> omega
    have hY0 : Y16 K cs Hb H17 r sc ns (p3 m0 m1 m2) (p3 d0 d1 d2) (p3 k0 k1 k2) ml soft pn pb xs 0 A (vput v 2 { v 2 with heard := false }) ⟨mkRat 64 64, 0, 0⟩ 7 1 1 (.ref pa) (.ref pb') 1 1 := by
      refine ⟨hw16.go hR17 s17, hZ15.mv ((hZ15.m3.st0 t4).str s17 hrt), ⟨by decide, by decide, by decide, by decide, by decide +kernel, fun z => absurd z (by decide), fun _ => rfl⟩, ((isQ_of e13).st t4).st s17, ((isQ_of e23).st t4).st s17, ?_, ?_, s17.keep _ _ (t4.keep _ _ hml15 (by simp)) (by simpa using hmlr), Nat.le_refl _⟩
      · rw [show (1 : Rat) = mkRat 1 1 from by decide +kernel]
        exact Rb.of (by decide) (by decide) (by decide)
      · rw [show (1 : Rat) = mkRat 1 1 from by decide +kernel]
        exact Rb.of (by decide) (by decide) (by decide)
    refine ⟨_, rfl, most, rfl, by omega, by omega, ?_⟩
    refine for_range (lo := 0) (n := most.toNat) (fun i σ H' => ∃ v' L n F Qr fv lv Bt O y4 y7 y15 y16 y17 y18 y19 y20 y14, σ = [some (.ref sc), some (.ref r), some (.int soft), some (.ref ph), y4, some (.ref nu), some (.ref ml), y7, y8, some fv, some lv, some (.int Bt), some (.int O), some (.int most), y14, y15, y16, y17, y18, y19, y20] ∧ Y16 K cs Hb H' r sc ns (p3 m0 m1 m2) (p3 d0 d1 d2) (p3 k0 k1 k2) ml soft pn pb xs i A v' L n F Qr fv lv Bt O ∧ n ≤ 7 + 6 * i)
      ⟨_, _, _, _, _, _, _, _, _, _, _, _, _, _, _, _, _, _, rfl, hY0, Nat.le_refl _⟩ (fun i σ H' hi h => ?_) (fun σ H' h => ?_)
    · obtain ⟨v', L, n, F, Qr, fv, lv, Bt, O, y4, y7, y15, y16, y17, y18, y19, y20, y14, rfl, hY, hn⟩ := h
      have hib : ((i : Nat) : Int) * pn / pb ≤ 998 := by
        have h1 : (i : Int) * pn ≤ 995 * pb := by
          have : ((i : Int) + 1) ≤ 995 * pb / pn := by omega
          have h2 : ((i : Int) + 1) * pn ≤ 995 * pb := (Int.le_ediv_iff_mul_le (by omega)).mp this
          have h3 : ((i : Int) + 1) * pn = i * pn + pn := by rw [Int.add_mul, Int.one_mul]
          omega
        have h4 : (i : Int) * pn / pb < 996 := Int.ediv_lt_of_lt_mul (by omega) (by omega)
        omega
      simp only [Int.zero_add, List.set_cons_zero, List.set_cons_succ]
      refine qB _ Hb H' r sc ns _ _ _ ml soft pn pb most xs i A v' L n F Qr fv lv Bt O _ _ _ _ _ _ _ _ _ _ _ _ hRb hY hmlb (by omega) so1 so2 hxl pn0 pb0 hib fun H2 z4 z7 z15 z16 z17 z18 z19 z20 v2 L2' n2 F2 Q2 fv2 lv2 B2 O2 hY2 hn2 => ?_
      exact ⟨v2, L2', n2, F2, Q2, fv2, lv2, B2, O2, _, _, _, _, _, _, _, _, _, rfl, hY2, by omega⟩
    · obtain ⟨v', L, n, F, Qr, fv, lv, Bt, O, y4, y7, y15, y16, y17, y18, y19, y20, y14, rfl, hY, hn⟩ := h
      walk_at "rd"
      obtain ⟨hwE, hZE, _, _, _, _, _, hmlE, _⟩ := hY
      have hM3E := hZE.m3
      refine ⟨_, rfl, ml, rfl, ⟨_, .inl (.inl hmlE)⟩, fun D0 hD0 => ?_⟩
      have hDm : ml ≠ D0 := fun z => by rw [← z, hmlE] at hD0; cases hD0
      refine lc_it (walk_list (K := K) (a := ml) (xs := ms3 (p3 m0 m1 m2))) (fun i H2 => Stp [] H' H2 ∧ ∃ ys : List V, H2 D0 = some (.lst ys) ∧ ys.length = i ∧ ∀ y ∈ ys, ∃ p, y = .ref p ∧ H2 p = some (.lst []) ∧ p ≠ D0)
        ⟨Stp.new hD0, [], upd_same, rfl, by simp⟩ (fun i H2 _ h => .inl (.inl (h.1.keep _ _ hmlE (by simp)))) (fun i x H2 H2' hi h hx => ?_) (fun H2 h => ?_)
      · obtain ⟨rfl, hx⟩ := hx
        obtain ⟨s2, ys, hD2, hyl, hys⟩ := h
        obtain ⟨hi, rfl⟩ := ms3_at hx
        refine ⟨wipe1, ?_⟩
        simp only [tYes, reduceIte]
        have hMi := (hM3E.at_ i hi).st0 s2
        obtain ⟨dxm, hm⟩ := id hMi.ob
        refine ⟨_, rfl, p3 m0 m1 m2 i, dxm, _, rfl, hm, by walk_at "rd", p3 m0 m1 m2 i, p3 d0 d1 d2 i, p3 k0 k1 k2 i, mx3 soft most.toNat A v' i, rfl, hMi, fun p H3 ls hp s3 hl hpr => ?_⟩
        have els : ls = [] := by
          have hpr' : Paired (IsPair H3) ls [] := hpr
          cases hpr'
          rfl
        subst els
        have hD3 := s3.keep _ _ hD2 (by simp)
        have sP := Stp.put (o := .lst (ys ++ [.ref p])) hD3 (fun xs z => nomatch z)
        have hpD : p ≠ D0 := fun z => by rw [z, hD2] at hp; cases hp
        refine ⟨ys, hD3, Nat.lt_of_le_of_lt (show ys.length ≤ 3 by omega) (by decide), ((s2.trans s3).trans sP).subN fun b hb => .inr ?_, ys ++ [.ref p], upd_same, by rw [List.length_append, hyl]; rfl, fun y hy => ?_⟩
        · have : b = D0 := by simpa using hb
          rw [this]
          exact hD0
        · rcases List.mem_append.mp hy with z | z
          · obtain ⟨p', rfl, h1, h2⟩ := hys y z
            exact ⟨p', rfl, sP.keep _ _ (s3.keep _ _ h1 (by simp)) (by simpa using h2), h2⟩
          · exact ⟨p, List.mem_singleton.mp z, sP.keep _ _ hl (by simpa using hpD), hpD⟩
      · obtain ⟨s2, ys, hD2, hyl, hys⟩ := h
        refine ⟨by decide, fun q1 hq1 => ?_⟩
        have t1 := Stp.new (o := .lst []) hq1
        have e1 : upd H2 q1 (.lst []) q1 = some (.lst []) := upd_same
        generalize upd H2 q1 (.lst []) = Ha at *
        refine ⟨by decide, fun q2 hq2 => ?_⟩
        have t2 := Stp.new (o := .lst []) hq2
        have e2 : upd Ha q2 (.lst []) q2 = some (.lst []) := upd_same
        generalize upd Ha q2 (.lst []) = Hc at *
        refine ⟨by decide, fun q3 hq3 => ?_⟩
        have t3 := Stp.new (o := .lst []) hq3
        have e3 : upd Hc q3 (.lst []) q3 = some (.lst []) := upd_same
        generalize upd Hc q3 (.lst []) = Hd at *
        refine ⟨by decide, fun q4 hq4 => ?_⟩
        have t4 := Stp.new (o := .lst [.ref q1, .ref q2, .ref q3]) hq4
        have e4 : upd Hd q4 (.lst [.ref q1, .ref q2, .ref q3]) q4 = some (.lst [.ref q1, .ref q2, .ref q3]) := upd_same
        generalize upd Hd q4 (.lst [.ref q1, .ref q2, .ref q3]) = He at *
        have g2 : Stp [] H2 He := (t1.trans (t2.trans (t3.trans t4))).sub (by simp)
        have l1 := ((t2.trans (t3.trans t4)).sub (by simp) : Stp [] Ha He).keep _ _ e1 (by simp)
        have l2 := ((t3.trans t4).sub (by simp) : Stp [] Hc He).keep _ _ e2 (by simp)
        have l3 := t4.keep _ _ e3 (by simp)
        have one : ∀ y ∈ ys, ∀ q, He q = some (.lst []) → EqT K He 1 y (.ref q) := fun y hy q hq => by
          obtain ⟨p, rfl, h1, _⟩ := hys y hy
          exact .inr ⟨p, q, [], [], rfl, rfl, .inr ⟨g2.keep _ _ h1 (by simp), hq⟩, by decide, .nil⟩
        rw [ms3_len] at hyl
        obtain ⟨ya, yb, yc, rfl⟩ : ∃ a b c, ys = [a, b, c] := by
          match ys, hyl with
          | [a, b, c], _ => exact ⟨a, b, c, rfl⟩
        exact eq_T (n := 2) (.inr ⟨D0, q4, _, _, rfl, rfl, .inr ⟨g2.keep _ _ hD2 (by simp), e4⟩, by show 3 ≤ 100000; decide, .cons (one _ (by simp) _ l1) (.cons (one _ (by simp) _ l2) (.cons (one _ (by simp) _ l3) .nil))⟩) (by decide) (kk _)
end
end Mx

namespace Mx
open PySem L2
theorem all_mk {l : PySem.W.OpenLaw} {w : World} {K : PySem.W.Frag} {h : Heap} {mg : Str → Option Value} {fa cs_L cs_D cs_V cs_M f_is_whole f_check_soft f_check_name f_check_pace f_check_wait f_check_loudness f_ratio f_plus f_minus f_times f_Line_init f_Line_room f_Line_begun f_spot f_wanted f_Line_wants f_Line_over f_Line_lacks f_Line_ready f_Line_value f_Line_take f_Line_close f_Loudness_init f_Loudness_lead_on f_Loudness_lead_to f_check_lead f_Voice_fall f_Voice_rise f_Voice_begin_fall f_Voice_sound f_Voice_init f_Voice_give f_Mixer_init f_Mixer_voice_of f_Mixer_add f_Mixer_parcel f_Mixer_end f_Mixer_beat f_Mixer_lead f_Mixer_now f_Mixer_missed f_Mixer_state_of f_Mixer_states f_Mixer_hush f_law_taken f_law_share f_law_plus f_law_times f_law_number f_law_pace f_law aN : Addr} (X : K.In h) (G : h.Ns mainGlobals mg) (hfa : mg "law" = some (.ref fa))
    {od_is_whole an_is_whole od_check_soft an_check_soft od_check_name an_check_name od_check_pace an_check_pace od_check_wait an_check_wait od_check_loudness an_check_loudness od_ratio an_ratio od_plus an_plus od_minus an_minus od_times an_times od_Line_init an_Line_init od_Line_room an_Line_room od_Line_begun an_Line_begun od_spot an_spot od_wanted an_wanted od_Line_wants an_Line_wants od_Line_over an_Line_over od_Line_lacks an_Line_lacks od_Line_ready an_Line_ready od_Line_value an_Line_value od_Line_take an_Line_take od_Line_close an_Line_close od_Loudness_init an_Loudness_init od_Loudness_lead_on an_Loudness_lead_on od_Loudness_lead_to an_Loudness_lead_to od_check_lead an_check_lead od_Voice_fall an_Voice_fall od_Voice_rise an_Voice_rise od_Voice_begin_fall an_Voice_begin_fall od_Voice_sound an_Voice_sound od_Voice_init an_Voice_init od_Voice_give an_Voice_give od_Mixer_init an_Mixer_init od_Mixer_voice_of an_Mixer_voice_of od_Mixer_add an_Mixer_add od_Mixer_parcel an_Mixer_parcel od_Mixer_end an_Mixer_end od_Mixer_beat an_Mixer_beat od_Mixer_lead an_Mixer_lead od_Mixer_now an_Mixer_now od_Mixer_missed an_Mixer_missed od_Mixer_state_of an_Mixer_state_of od_Mixer_states an_Mixer_states od_Mixer_hush an_Mixer_hush od_law_taken an_law_taken od_law_share an_law_share od_law_plus an_law_plus od_law_times an_law_times od_law_number an_law_number od_law_pace an_law_pace od_law an_law odN : Option Addr} {sl_is_whole sl_check_soft sl_check_name sl_check_pace sl_check_wait sl_check_loudness sl_ratio sl_plus sl_minus sl_times sl_Line_init sl_Line_room sl_Line_begun sl_spot sl_wanted sl_Line_wants sl_Line_over sl_Line_lacks sl_Line_ready sl_Line_value sl_Line_take sl_Line_close sl_Loudness_init sl_Loudness_lead_on sl_Loudness_lead_to sl_check_lead sl_Voice_fall sl_Voice_rise sl_Voice_begin_fall sl_Voice_sound sl_Voice_init sl_Voice_give sl_Mixer_init sl_Mixer_voice_of sl_Mixer_add sl_Mixer_parcel sl_Mixer_end sl_Mixer_beat sl_Mixer_lead sl_Mixer_now sl_Mixer_missed sl_Mixer_state_of sl_Mixer_states sl_Mixer_hush sl_law_taken sl_law_share sl_law_plus sl_law_times sl_law_number sl_law_pace sl_law slN : Array (Option Value)}
    {oc_is_whole kV_is_whole dc_is_whole pm_is_whole cd_is_whole ct_is_whole oc_check_soft kV_check_soft dc_check_soft pm_check_soft cd_check_soft ct_check_soft oc_check_name kV_check_name dc_check_name pm_check_name cd_check_name ct_check_name oc_check_pace kV_check_pace dc_check_pace pm_check_pace cd_check_pace ct_check_pace oc_check_wait kV_check_wait dc_check_wait pm_check_wait cd_check_wait ct_check_wait oc_check_loudness kV_check_loudness dc_check_loudness pm_check_loudness cd_check_loudness ct_check_loudness oc_ratio kV_ratio dc_ratio pm_ratio cd_ratio ct_ratio oc_plus kV_plus dc_plus pm_plus cd_plus ct_plus oc_minus kV_minus dc_minus pm_minus cd_minus ct_minus oc_times kV_times dc_times pm_times cd_times ct_times oc_Line_init kV_Line_init dc_Line_init pm_Line_init cd_Line_init ct_Line_init oc_Line_room kV_Line_room dc_Line_room pm_Line_room cd_Line_room ct_Line_room oc_Line_begun kV_Line_begun dc_Line_begun pm_Line_begun cd_Line_begun ct_Line_begun oc_spot kV_spot dc_spot pm_spot cd_spot ct_spot oc_wanted kV_wanted dc_wanted pm_wanted cd_wanted ct_wanted oc_Line_wants kV_Line_wants dc_Line_wants pm_Line_wants cd_Line_wants ct_Line_wants oc_Line_over kV_Line_over dc_Line_over pm_Line_over cd_Line_over ct_Line_over oc_Line_lacks kV_Line_lacks dc_Line_lacks pm_Line_lacks cd_Line_lacks ct_Line_lacks oc_Line_ready kV_Line_ready dc_Line_ready pm_Line_ready cd_Line_ready ct_Line_ready oc_Line_value kV_Line_value dc_Line_value pm_Line_value cd_Line_value ct_Line_value oc_Line_take kV_Line_take dc_Line_take pm_Line_take cd_Line_take ct_Line_take oc_Line_close kV_Line_close dc_Line_close pm_Line_close cd_Line_close ct_Line_close oc_Loudness_init kV_Loudness_init dc_Loudness_init pm_Loudness_init cd_Loudness_init ct_Loudness_init oc_Loudness_lead_on kV_Loudness_lead_on dc_Loudness_lead_on pm_Loudness_lead_on cd_Loudness_lead_on ct_Loudness_lead_on oc_Loudness_lead_to kV_Loudness_lead_to dc_Loudness_lead_to pm_Loudness_lead_to cd_Loudness_lead_to ct_Loudness_lead_to oc_check_lead kV_check_lead dc_check_lead pm_check_lead cd_check_lead ct_check_lead oc_Voice_fall kV_Voice_fall dc_Voice_fall pm_Voice_fall cd_Voice_fall ct_Voice_fall oc_Voice_rise kV_Voice_rise dc_Voice_rise pm_Voice_rise cd_Voice_rise ct_Voice_rise oc_Voice_begin_fall kV_Voice_begin_fall dc_Voice_begin_fall pm_Voice_begin_fall cd_Voice_begin_fall ct_Voice_begin_fall oc_Voice_sound kV_Voice_sound dc_Voice_sound pm_Voice_sound cd_Voice_sound ct_Voice_sound oc_Voice_init kV_Voice_init dc_Voice_init pm_Voice_init cd_Voice_init ct_Voice_init oc_Voice_give kV_Voice_give dc_Voice_give pm_Voice_give cd_Voice_give ct_Voice_give oc_Mixer_init kV_Mixer_init dc_Mixer_init pm_Mixer_init cd_Mixer_init ct_Mixer_init oc_Mixer_voice_of kV_Mixer_voice_of dc_Mixer_voice_of pm_Mixer_voice_of cd_Mixer_voice_of ct_Mixer_voice_of oc_Mixer_add kV_Mixer_add dc_Mixer_add pm_Mixer_add cd_Mixer_add ct_Mixer_add oc_Mixer_parcel kV_Mixer_parcel dc_Mixer_parcel pm_Mixer_parcel cd_Mixer_parcel ct_Mixer_parcel oc_Mixer_end kV_Mixer_end dc_Mixer_end pm_Mixer_end cd_Mixer_end ct_Mixer_end oc_Mixer_beat kV_Mixer_beat dc_Mixer_beat pm_Mixer_beat cd_Mixer_beat ct_Mixer_beat oc_Mixer_lead kV_Mixer_lead dc_Mixer_lead pm_Mixer_lead cd_Mixer_lead ct_Mixer_lead oc_Mixer_now kV_Mixer_now dc_Mixer_now pm_Mixer_now cd_Mixer_now ct_Mixer_now oc_Mixer_missed kV_Mixer_missed dc_Mixer_missed pm_Mixer_missed cd_Mixer_missed ct_Mixer_missed oc_Mixer_state_of kV_Mixer_state_of dc_Mixer_state_of pm_Mixer_state_of cd_Mixer_state_of ct_Mixer_state_of oc_Mixer_states kV_Mixer_states dc_Mixer_states pm_Mixer_states cd_Mixer_states ct_Mixer_states oc_Mixer_hush kV_Mixer_hush dc_Mixer_hush pm_Mixer_hush cd_Mixer_hush ct_Mixer_hush oc_law_taken kV_law_taken dc_law_taken pm_law_taken cd_law_taken ct_law_taken oc_law_share kV_law_share dc_law_share pm_law_share cd_law_share ct_law_share oc_law_plus kV_law_plus dc_law_plus pm_law_plus cd_law_plus ct_law_plus oc_law_times kV_law_times dc_law_times pm_law_times cd_law_times ct_law_times oc_law_number kV_law_number dc_law_number pm_law_number cd_law_number ct_law_number oc_law_pace kV_law_pace dc_law_pace pm_law_pace cd_law_pace ct_law_pace oc_law kV_law dc_law pm_law cd_law ct_law : Value} {t_MOST t_FULL t_HUSHED t_RISING t_ON t_FALLING tN0 tN1 : Tok} {nN : Nat}
    (aC_L : PySem.W.nsIn K mainGlobals "Line" = some (some (.ref cs_L)))
    (pg_L : PySem.W.plainGet K cs_L Str.empty = true)
    (hd_L : PySem.W.hasDictIn K cs_L = true)
    (po_L : PySem.W.plainOver K cs_L = true)
    (sa_L : PySem.W.findIn K (.ref cs_L) "__setattr__" = some (some (.builtin "object.__setattr__")))
    (mk_L : PySem.W.makesIn K cs_L = true)
    (kc_L : PySem.W.keepIn K (.ref cs_L) = true)
    (nL1 : PySem.W.findIn K (.ref cs_L) "pace" = some none)
    (nL2 : PySem.W.findIn K (.ref cs_L) "begin" = some none)
    (nL3 : PySem.W.findIn K (.ref cs_L) "came" = some none)
    (nL4 : PySem.W.findIn K (.ref cs_L) "reach" = some none)
    (nL5 : PySem.W.findIn K (.ref cs_L) "many" = some none)
    (aC_D : PySem.W.nsIn K mainGlobals "Loudness" = some (some (.ref cs_D)))
    (pg_D : PySem.W.plainGet K cs_D Str.empty = true)
    (hd_D : PySem.W.hasDictIn K cs_D = true)
    (po_D : PySem.W.plainOver K cs_D = true)
    (sa_D : PySem.W.findIn K (.ref cs_D) "__setattr__" = some (some (.builtin "object.__setattr__")))
    (mk_D : PySem.W.makesIn K cs_D = true)
    (kc_D : PySem.W.keepIn K (.ref cs_D) = true)
    (nD1 : PySem.W.findIn K (.ref cs_D) "level" = some none)
    (nD2 : PySem.W.findIn K (.ref cs_D) "stride" = some none)
    (nD3 : PySem.W.findIn K (.ref cs_D) "left" = some none)
    (aC_V : PySem.W.nsIn K mainGlobals "Voice" = some (some (.ref cs_V)))
    (pg_V : PySem.W.plainGet K cs_V Str.empty = true)
    (hd_V : PySem.W.hasDictIn K cs_V = true)
    (po_V : PySem.W.plainOver K cs_V = true)
    (sa_V : PySem.W.findIn K (.ref cs_V) "__setattr__" = some (some (.builtin "object.__setattr__")))
    (mk_V : PySem.W.makesIn K cs_V = true)
    (kc_V : PySem.W.keepIn K (.ref cs_V) = true)
    (nV1 : PySem.W.findIn K (.ref cs_V) "line" = some none)
    (nV2 : PySem.W.findIn K (.ref cs_V) "loudness" = some none)
    (nV3 : PySem.W.findIn K (.ref cs_V) "heard" = some none)
    (nV4 : PySem.W.findIn K (.ref cs_V) "state" = some none)
    (nV5 : PySem.W.findIn K (.ref cs_V) "steps" = some none)
    (nV6 : PySem.W.findIn K (.ref cs_V) "part" = some none)
    (nV7 : PySem.W.findIn K (.ref cs_V) "height" = some none)
    (aC_M : PySem.W.nsIn K mainGlobals "Mixer" = some (some (.ref cs_M)))
    (pg_M : PySem.W.plainGet K cs_M Str.empty = true)
    (hd_M : PySem.W.hasDictIn K cs_M = true)
    (po_M : PySem.W.plainOver K cs_M = true)
    (sa_M : PySem.W.findIn K (.ref cs_M) "__setattr__" = some (some (.builtin "object.__setattr__")))
    (mk_M : PySem.W.makesIn K cs_M = true)
    (kc_M : PySem.W.keepIn K (.ref cs_M) = true)
    (nM1 : PySem.W.findIn K (.ref cs_M) "soft" = some none)
    (nM2 : PySem.W.findIn K (.ref cs_M) "coming" = some none)
    (nM3 : PySem.W.findIn K (.ref cs_M) "voices" = some none)
    (nM4 : PySem.W.findIn K (.ref cs_M) "lacked" = some none)
    (a_is_whole : PySem.W.nsIn K mainGlobals "is_whole" = some (some (.ref f_is_whole)))
    (l_is_whole : K.lookup f_is_whole = some ⟨oc_is_whole, od_is_whole, .func (PySem.W.fnOf "is_whole" "is_whole" (defArgs s_is_whole) (defBody s_is_whole) (defScope s_is_whole) .none kV_is_whole dc_is_whole pm_is_whole an_is_whole cd_is_whole ct_is_whole), sl_is_whole⟩)
    (c_is_whole : PySem.W.codeIn K cd_is_whole "is_whole" = true)
    (k_is_whole : PySem.W.keepIn K (.ref f_is_whole) = true)
    (a_check_soft : PySem.W.nsIn K mainGlobals "check_soft" = some (some (.ref f_check_soft)))
    (l_check_soft : K.lookup f_check_soft = some ⟨oc_check_soft, od_check_soft, .func (PySem.W.fnOf "check_soft" "check_soft" (defArgs s_check_soft) (defBody s_check_soft) (defScope s_check_soft) .none kV_check_soft dc_check_soft pm_check_soft an_check_soft cd_check_soft ct_check_soft), sl_check_soft⟩)
    (c_check_soft : PySem.W.codeIn K cd_check_soft "check_soft" = true)
    (k_check_soft : PySem.W.keepIn K (.ref f_check_soft) = true)
    (a_check_name : PySem.W.nsIn K mainGlobals "check_name" = some (some (.ref f_check_name)))
    (l_check_name : K.lookup f_check_name = some ⟨oc_check_name, od_check_name, .func (PySem.W.fnOf "check_name" "check_name" (defArgs s_check_name) (defBody s_check_name) (defScope s_check_name) .none kV_check_name dc_check_name pm_check_name an_check_name cd_check_name ct_check_name), sl_check_name⟩)
    (c_check_name : PySem.W.codeIn K cd_check_name "check_name" = true)
    (k_check_name : PySem.W.keepIn K (.ref f_check_name) = true)
    (a_check_pace : PySem.W.nsIn K mainGlobals "check_pace" = some (some (.ref f_check_pace)))
    (l_check_pace : K.lookup f_check_pace = some ⟨oc_check_pace, od_check_pace, .func (PySem.W.fnOf "check_pace" "check_pace" (defArgs s_check_pace) (defBody s_check_pace) (defScope s_check_pace) .none kV_check_pace dc_check_pace pm_check_pace an_check_pace cd_check_pace ct_check_pace), sl_check_pace⟩)
    (c_check_pace : PySem.W.codeIn K cd_check_pace "check_pace" = true)
    (k_check_pace : PySem.W.keepIn K (.ref f_check_pace) = true)
    (a_check_wait : PySem.W.nsIn K mainGlobals "check_wait" = some (some (.ref f_check_wait)))
    (l_check_wait : K.lookup f_check_wait = some ⟨oc_check_wait, od_check_wait, .func (PySem.W.fnOf "check_wait" "check_wait" (defArgs s_check_wait) (defBody s_check_wait) (defScope s_check_wait) .none kV_check_wait dc_check_wait pm_check_wait an_check_wait cd_check_wait ct_check_wait), sl_check_wait⟩)
    (c_check_wait : PySem.W.codeIn K cd_check_wait "check_wait" = true)
    (k_check_wait : PySem.W.keepIn K (.ref f_check_wait) = true)
    (a_check_loudness : PySem.W.nsIn K mainGlobals "check_loudness" = some (some (.ref f_check_loudness)))
    (l_check_loudness : K.lookup f_check_loudness = some ⟨oc_check_loudness, od_check_loudness, .func (PySem.W.fnOf "check_loudness" "check_loudness" (defArgs s_check_loudness) (defBody s_check_loudness) (defScope s_check_loudness) .none kV_check_loudness dc_check_loudness pm_check_loudness an_check_loudness cd_check_loudness ct_check_loudness), sl_check_loudness⟩)
    (c_check_loudness : PySem.W.codeIn K cd_check_loudness "check_loudness" = true)
    (k_check_loudness : PySem.W.keepIn K (.ref f_check_loudness) = true)
    (a_ratio : PySem.W.nsIn K mainGlobals "ratio" = some (some (.ref f_ratio)))
    (l_ratio : K.lookup f_ratio = some ⟨oc_ratio, od_ratio, .func (PySem.W.fnOf "ratio" "ratio" (defArgs s_ratio) (defBody s_ratio) (defScope s_ratio) .none kV_ratio dc_ratio pm_ratio an_ratio cd_ratio ct_ratio), sl_ratio⟩)
    (c_ratio : PySem.W.codeIn K cd_ratio "ratio" = true)
    (k_ratio : PySem.W.keepIn K (.ref f_ratio) = true)
    (a_plus : PySem.W.nsIn K mainGlobals "plus" = some (some (.ref f_plus)))
    (l_plus : K.lookup f_plus = some ⟨oc_plus, od_plus, .func (PySem.W.fnOf "plus" "plus" (defArgs s_plus) (defBody s_plus) (defScope s_plus) .none kV_plus dc_plus pm_plus an_plus cd_plus ct_plus), sl_plus⟩)
    (c_plus : PySem.W.codeIn K cd_plus "plus" = true)
    (k_plus : PySem.W.keepIn K (.ref f_plus) = true)
    (a_minus : PySem.W.nsIn K mainGlobals "minus" = some (some (.ref f_minus)))
    (l_minus : K.lookup f_minus = some ⟨oc_minus, od_minus, .func (PySem.W.fnOf "minus" "minus" (defArgs s_minus) (defBody s_minus) (defScope s_minus) .none kV_minus dc_minus pm_minus an_minus cd_minus ct_minus), sl_minus⟩)
    (c_minus : PySem.W.codeIn K cd_minus "minus" = true)
    (k_minus : PySem.W.keepIn K (.ref f_minus) = true)
    (a_times : PySem.W.nsIn K mainGlobals "times" = some (some (.ref f_times)))
    (l_times : K.lookup f_times = some ⟨oc_times, od_times, .func (PySem.W.fnOf "times" "times" (defArgs s_times) (defBody s_times) (defScope s_times) .none kV_times dc_times pm_times an_times cd_times ct_times), sl_times⟩)
    (c_times : PySem.W.codeIn K cd_times "times" = true)
    (k_times : PySem.W.keepIn K (.ref f_times) = true)
    (a_Line_init : PySem.W.findIn K (.ref cs_L) "__init__" = some (some (.ref f_Line_init)))
    (i_Line_init : PySem.W.isFn K (.ref f_Line_init) = true)
    (l_Line_init : K.lookup f_Line_init = some ⟨oc_Line_init, od_Line_init, .func (PySem.W.fnOf "__init__" "Line.__init__" (defArgs s_Line_init) (defBody s_Line_init) (defScope s_Line_init) .none kV_Line_init dc_Line_init pm_Line_init an_Line_init cd_Line_init ct_Line_init), sl_Line_init⟩)
    (c_Line_init : PySem.W.codeIn K cd_Line_init "Line.__init__" = true)
    (k_Line_init : PySem.W.keepIn K (.ref f_Line_init) = true)
    (a_Line_room : PySem.W.findIn K (.ref cs_L) "room" = some (some (.ref f_Line_room)))
    (i_Line_room : PySem.W.isFn K (.ref f_Line_room) = true)
    (l_Line_room : K.lookup f_Line_room = some ⟨oc_Line_room, od_Line_room, .func (PySem.W.fnOf "room" "Line.room" (defArgs s_Line_room) (defBody s_Line_room) (defScope s_Line_room) .none kV_Line_room dc_Line_room pm_Line_room an_Line_room cd_Line_room ct_Line_room), sl_Line_room⟩)
    (c_Line_room : PySem.W.codeIn K cd_Line_room "Line.room" = true)
    (k_Line_room : PySem.W.keepIn K (.ref f_Line_room) = true)
    (a_Line_begun : PySem.W.findIn K (.ref cs_L) "begun" = some (some (.ref f_Line_begun)))
    (i_Line_begun : PySem.W.isFn K (.ref f_Line_begun) = true)
    (l_Line_begun : K.lookup f_Line_begun = some ⟨oc_Line_begun, od_Line_begun, .func (PySem.W.fnOf "begun" "Line.begun" (defArgs s_Line_begun) (defBody s_Line_begun) (defScope s_Line_begun) .none kV_Line_begun dc_Line_begun pm_Line_begun an_Line_begun cd_Line_begun ct_Line_begun), sl_Line_begun⟩)
    (c_Line_begun : PySem.W.codeIn K cd_Line_begun "Line.begun" = true)
    (k_Line_begun : PySem.W.keepIn K (.ref f_Line_begun) = true)
    (a_spot : PySem.W.nsIn K mainGlobals "spot" = some (some (.ref f_spot)))
    (l_spot : K.lookup f_spot = some ⟨oc_spot, od_spot, .func (PySem.W.fnOf "spot" "spot" (defArgs s_spot) (defBody s_spot) (defScope s_spot) .none kV_spot dc_spot pm_spot an_spot cd_spot ct_spot), sl_spot⟩)
    (c_spot : PySem.W.codeIn K cd_spot "spot" = true)
    (k_spot : PySem.W.keepIn K (.ref f_spot) = true)
    (a_wanted : PySem.W.nsIn K mainGlobals "wanted" = some (some (.ref f_wanted)))
    (l_wanted : K.lookup f_wanted = some ⟨oc_wanted, od_wanted, .func (PySem.W.fnOf "wanted" "wanted" (defArgs s_wanted) (defBody s_wanted) (defScope s_wanted) .none kV_wanted dc_wanted pm_wanted an_wanted cd_wanted ct_wanted), sl_wanted⟩)
    (c_wanted : PySem.W.codeIn K cd_wanted "wanted" = true)
    (k_wanted : PySem.W.keepIn K (.ref f_wanted) = true)
    (a_Line_wants : PySem.W.findIn K (.ref cs_L) "wants" = some (some (.ref f_Line_wants)))
    (i_Line_wants : PySem.W.isFn K (.ref f_Line_wants) = true)
    (l_Line_wants : K.lookup f_Line_wants = some ⟨oc_Line_wants, od_Line_wants, .func (PySem.W.fnOf "wants" "Line.wants" (defArgs s_Line_wants) (defBody s_Line_wants) (defScope s_Line_wants) .none kV_Line_wants dc_Line_wants pm_Line_wants an_Line_wants cd_Line_wants ct_Line_wants), sl_Line_wants⟩)
    (c_Line_wants : PySem.W.codeIn K cd_Line_wants "Line.wants" = true)
    (k_Line_wants : PySem.W.keepIn K (.ref f_Line_wants) = true)
    (a_Line_over : PySem.W.findIn K (.ref cs_L) "over" = some (some (.ref f_Line_over)))
    (i_Line_over : PySem.W.isFn K (.ref f_Line_over) = true)
    (l_Line_over : K.lookup f_Line_over = some ⟨oc_Line_over, od_Line_over, .func (PySem.W.fnOf "over" "Line.over" (defArgs s_Line_over) (defBody s_Line_over) (defScope s_Line_over) .none kV_Line_over dc_Line_over pm_Line_over an_Line_over cd_Line_over ct_Line_over), sl_Line_over⟩)
    (c_Line_over : PySem.W.codeIn K cd_Line_over "Line.over" = true)
    (k_Line_over : PySem.W.keepIn K (.ref f_Line_over) = true)
    (a_Line_lacks : PySem.W.findIn K (.ref cs_L) "lacks" = some (some (.ref f_Line_lacks)))
    (i_Line_lacks : PySem.W.isFn K (.ref f_Line_lacks) = true)
    (l_Line_lacks : K.lookup f_Line_lacks = some ⟨oc_Line_lacks, od_Line_lacks, .func (PySem.W.fnOf "lacks" "Line.lacks" (defArgs s_Line_lacks) (defBody s_Line_lacks) (defScope s_Line_lacks) .none kV_Line_lacks dc_Line_lacks pm_Line_lacks an_Line_lacks cd_Line_lacks ct_Line_lacks), sl_Line_lacks⟩)
    (c_Line_lacks : PySem.W.codeIn K cd_Line_lacks "Line.lacks" = true)
    (k_Line_lacks : PySem.W.keepIn K (.ref f_Line_lacks) = true)
    (a_Line_ready : PySem.W.findIn K (.ref cs_L) "ready" = some (some (.ref f_Line_ready)))
    (i_Line_ready : PySem.W.isFn K (.ref f_Line_ready) = true)
    (l_Line_ready : K.lookup f_Line_ready = some ⟨oc_Line_ready, od_Line_ready, .func (PySem.W.fnOf "ready" "Line.ready" (defArgs s_Line_ready) (defBody s_Line_ready) (defScope s_Line_ready) .none kV_Line_ready dc_Line_ready pm_Line_ready an_Line_ready cd_Line_ready ct_Line_ready), sl_Line_ready⟩)
    (c_Line_ready : PySem.W.codeIn K cd_Line_ready "Line.ready" = true)
    (k_Line_ready : PySem.W.keepIn K (.ref f_Line_ready) = true)
    (a_Line_value : PySem.W.findIn K (.ref cs_L) "value" = some (some (.ref f_Line_value)))
    (i_Line_value : PySem.W.isFn K (.ref f_Line_value) = true)
    (l_Line_value : K.lookup f_Line_value = some ⟨oc_Line_value, od_Line_value, .func (PySem.W.fnOf "value" "Line.value" (defArgs s_Line_value) (defBody s_Line_value) (defScope s_Line_value) .none kV_Line_value dc_Line_value pm_Line_value an_Line_value cd_Line_value ct_Line_value), sl_Line_value⟩)
    (c_Line_value : PySem.W.codeIn K cd_Line_value "Line.value" = true)
    (k_Line_value : PySem.W.keepIn K (.ref f_Line_value) = true)
    (a_Line_take : PySem.W.findIn K (.ref cs_L) "take" = some (some (.ref f_Line_take)))
    (i_Line_take : PySem.W.isFn K (.ref f_Line_take) = true)
    (l_Line_take : K.lookup f_Line_take = some ⟨oc_Line_take, od_Line_take, .func (PySem.W.fnOf "take" "Line.take" (defArgs s_Line_take) (defBody s_Line_take) (defScope s_Line_take) .none kV_Line_take dc_Line_take pm_Line_take an_Line_take cd_Line_take ct_Line_take), sl_Line_take⟩)
    (c_Line_take : PySem.W.codeIn K cd_Line_take "Line.take" = true)
    (k_Line_take : PySem.W.keepIn K (.ref f_Line_take) = true)
    (a_Line_close : PySem.W.findIn K (.ref cs_L) "close" = some (some (.ref f_Line_close)))
    (i_Line_close : PySem.W.isFn K (.ref f_Line_close) = true)
    (l_Line_close : K.lookup f_Line_close = some ⟨oc_Line_close, od_Line_close, .func (PySem.W.fnOf "close" "Line.close" (defArgs s_Line_close) (defBody s_Line_close) (defScope s_Line_close) .none kV_Line_close dc_Line_close pm_Line_close an_Line_close cd_Line_close ct_Line_close), sl_Line_close⟩)
    (c_Line_close : PySem.W.codeIn K cd_Line_close "Line.close" = true)
    (k_Line_close : PySem.W.keepIn K (.ref f_Line_close) = true)
    (a_Loudness_init : PySem.W.findIn K (.ref cs_D) "__init__" = some (some (.ref f_Loudness_init)))
    (i_Loudness_init : PySem.W.isFn K (.ref f_Loudness_init) = true)
    (l_Loudness_init : K.lookup f_Loudness_init = some ⟨oc_Loudness_init, od_Loudness_init, .func (PySem.W.fnOf "__init__" "Loudness.__init__" (defArgs s_Loudness_init) (defBody s_Loudness_init) (defScope s_Loudness_init) .none kV_Loudness_init dc_Loudness_init pm_Loudness_init an_Loudness_init cd_Loudness_init ct_Loudness_init), sl_Loudness_init⟩)
    (c_Loudness_init : PySem.W.codeIn K cd_Loudness_init "Loudness.__init__" = true)
    (k_Loudness_init : PySem.W.keepIn K (.ref f_Loudness_init) = true)
    (a_Loudness_lead_on : PySem.W.findIn K (.ref cs_D) "lead_on" = some (some (.ref f_Loudness_lead_on)))
    (i_Loudness_lead_on : PySem.W.isFn K (.ref f_Loudness_lead_on) = true)
    (l_Loudness_lead_on : K.lookup f_Loudness_lead_on = some ⟨oc_Loudness_lead_on, od_Loudness_lead_on, .func (PySem.W.fnOf "lead_on" "Loudness.lead_on" (defArgs s_Loudness_lead_on) (defBody s_Loudness_lead_on) (defScope s_Loudness_lead_on) .none kV_Loudness_lead_on dc_Loudness_lead_on pm_Loudness_lead_on an_Loudness_lead_on cd_Loudness_lead_on ct_Loudness_lead_on), sl_Loudness_lead_on⟩)
    (c_Loudness_lead_on : PySem.W.codeIn K cd_Loudness_lead_on "Loudness.lead_on" = true)
    (k_Loudness_lead_on : PySem.W.keepIn K (.ref f_Loudness_lead_on) = true)
    (a_Loudness_lead_to : PySem.W.findIn K (.ref cs_D) "lead_to" = some (some (.ref f_Loudness_lead_to)))
    (i_Loudness_lead_to : PySem.W.isFn K (.ref f_Loudness_lead_to) = true)
    (l_Loudness_lead_to : K.lookup f_Loudness_lead_to = some ⟨oc_Loudness_lead_to, od_Loudness_lead_to, .func (PySem.W.fnOf "lead_to" "Loudness.lead_to" (defArgs s_Loudness_lead_to) (defBody s_Loudness_lead_to) (defScope s_Loudness_lead_to) .none kV_Loudness_lead_to dc_Loudness_lead_to pm_Loudness_lead_to an_Loudness_lead_to cd_Loudness_lead_to ct_Loudness_lead_to), sl_Loudness_lead_to⟩)
    (c_Loudness_lead_to : PySem.W.codeIn K cd_Loudness_lead_to "Loudness.lead_to" = true)
    (k_Loudness_lead_to : PySem.W.keepIn K (.ref f_Loudness_lead_to) = true)
    (a_check_lead : PySem.W.nsIn K mainGlobals "check_lead" = some (some (.ref f_check_lead)))
    (l_check_lead : K.lookup f_check_lead = some ⟨oc_check_lead, od_check_lead, .func (PySem.W.fnOf "check_lead" "check_lead" (defArgs s_check_lead) (defBody s_check_lead) (defScope s_check_lead) .none kV_check_lead dc_check_lead pm_check_lead an_check_lead cd_check_lead ct_check_lead), sl_check_lead⟩)
    (c_check_lead : PySem.W.codeIn K cd_check_lead "check_lead" = true)
    (k_check_lead : PySem.W.keepIn K (.ref f_check_lead) = true)
    (a_Voice_fall : PySem.W.findIn K (.ref cs_V) "fall" = some (some (.ref f_Voice_fall)))
    (i_Voice_fall : PySem.W.isFn K (.ref f_Voice_fall) = true)
    (l_Voice_fall : K.lookup f_Voice_fall = some ⟨oc_Voice_fall, od_Voice_fall, .func (PySem.W.fnOf "fall" "Voice.fall" (defArgs s_Voice_fall) (defBody s_Voice_fall) (defScope s_Voice_fall) .none kV_Voice_fall dc_Voice_fall pm_Voice_fall an_Voice_fall cd_Voice_fall ct_Voice_fall), sl_Voice_fall⟩)
    (c_Voice_fall : PySem.W.codeIn K cd_Voice_fall "Voice.fall" = true)
    (k_Voice_fall : PySem.W.keepIn K (.ref f_Voice_fall) = true)
    (a_Voice_rise : PySem.W.findIn K (.ref cs_V) "rise" = some (some (.ref f_Voice_rise)))
    (i_Voice_rise : PySem.W.isFn K (.ref f_Voice_rise) = true)
    (l_Voice_rise : K.lookup f_Voice_rise = some ⟨oc_Voice_rise, od_Voice_rise, .func (PySem.W.fnOf "rise" "Voice.rise" (defArgs s_Voice_rise) (defBody s_Voice_rise) (defScope s_Voice_rise) .none kV_Voice_rise dc_Voice_rise pm_Voice_rise an_Voice_rise cd_Voice_rise ct_Voice_rise), sl_Voice_rise⟩)
    (c_Voice_rise : PySem.W.codeIn K cd_Voice_rise "Voice.rise" = true)
    (k_Voice_rise : PySem.W.keepIn K (.ref f_Voice_rise) = true)
    (a_Voice_begin_fall : PySem.W.findIn K (.ref cs_V) "begin_fall" = some (some (.ref f_Voice_begin_fall)))
    (i_Voice_begin_fall : PySem.W.isFn K (.ref f_Voice_begin_fall) = true)
    (l_Voice_begin_fall : K.lookup f_Voice_begin_fall = some ⟨oc_Voice_begin_fall, od_Voice_begin_fall, .func (PySem.W.fnOf "begin_fall" "Voice.begin_fall" (defArgs s_Voice_begin_fall) (defBody s_Voice_begin_fall) (defScope s_Voice_begin_fall) .none kV_Voice_begin_fall dc_Voice_begin_fall pm_Voice_begin_fall an_Voice_begin_fall cd_Voice_begin_fall ct_Voice_begin_fall), sl_Voice_begin_fall⟩)
    (c_Voice_begin_fall : PySem.W.codeIn K cd_Voice_begin_fall "Voice.begin_fall" = true)
    (k_Voice_begin_fall : PySem.W.keepIn K (.ref f_Voice_begin_fall) = true)
    (a_Voice_sound : PySem.W.findIn K (.ref cs_V) "sound" = some (some (.ref f_Voice_sound)))
    (i_Voice_sound : PySem.W.isFn K (.ref f_Voice_sound) = true)
    (l_Voice_sound : K.lookup f_Voice_sound = some ⟨oc_Voice_sound, od_Voice_sound, .func (PySem.W.fnOf "sound" "Voice.sound" (defArgs s_Voice_sound) (defBody s_Voice_sound) (defScope s_Voice_sound) .none kV_Voice_sound dc_Voice_sound pm_Voice_sound an_Voice_sound cd_Voice_sound ct_Voice_sound), sl_Voice_sound⟩)
    (c_Voice_sound : PySem.W.codeIn K cd_Voice_sound "Voice.sound" = true)
    (k_Voice_sound : PySem.W.keepIn K (.ref f_Voice_sound) = true)
    (a_Voice_init : PySem.W.findIn K (.ref cs_V) "__init__" = some (some (.ref f_Voice_init)))
    (i_Voice_init : PySem.W.isFn K (.ref f_Voice_init) = true)
    (l_Voice_init : K.lookup f_Voice_init = some ⟨oc_Voice_init, od_Voice_init, .func (PySem.W.fnOf "__init__" "Voice.__init__" (defArgs s_Voice_init) (defBody s_Voice_init) (defScope s_Voice_init) .none kV_Voice_init dc_Voice_init pm_Voice_init an_Voice_init cd_Voice_init ct_Voice_init), sl_Voice_init⟩)
    (c_Voice_init : PySem.W.codeIn K cd_Voice_init "Voice.__init__" = true)
    (k_Voice_init : PySem.W.keepIn K (.ref f_Voice_init) = true)
    (a_Voice_give : PySem.W.findIn K (.ref cs_V) "give" = some (some (.ref f_Voice_give)))
    (i_Voice_give : PySem.W.isFn K (.ref f_Voice_give) = true)
    (l_Voice_give : K.lookup f_Voice_give = some ⟨oc_Voice_give, od_Voice_give, .func (PySem.W.fnOf "give" "Voice.give" (defArgs s_Voice_give) (defBody s_Voice_give) (defScope s_Voice_give) .none kV_Voice_give dc_Voice_give pm_Voice_give an_Voice_give cd_Voice_give ct_Voice_give), sl_Voice_give⟩)
    (c_Voice_give : PySem.W.codeIn K cd_Voice_give "Voice.give" = true)
    (k_Voice_give : PySem.W.keepIn K (.ref f_Voice_give) = true)
    (a_Mixer_init : PySem.W.findIn K (.ref cs_M) "__init__" = some (some (.ref f_Mixer_init)))
    (i_Mixer_init : PySem.W.isFn K (.ref f_Mixer_init) = true)
    (l_Mixer_init : K.lookup f_Mixer_init = some ⟨oc_Mixer_init, od_Mixer_init, .func (PySem.W.fnOf "__init__" "Mixer.__init__" (defArgs s_Mixer_init) (defBody s_Mixer_init) (defScope s_Mixer_init) .none kV_Mixer_init dc_Mixer_init pm_Mixer_init an_Mixer_init cd_Mixer_init ct_Mixer_init), sl_Mixer_init⟩)
    (c_Mixer_init : PySem.W.codeIn K cd_Mixer_init "Mixer.__init__" = true)
    (k_Mixer_init : PySem.W.keepIn K (.ref f_Mixer_init) = true)
    (a_Mixer_voice_of : PySem.W.findIn K (.ref cs_M) "voice_of" = some (some (.ref f_Mixer_voice_of)))
    (i_Mixer_voice_of : PySem.W.isFn K (.ref f_Mixer_voice_of) = true)
    (l_Mixer_voice_of : K.lookup f_Mixer_voice_of = some ⟨oc_Mixer_voice_of, od_Mixer_voice_of, .func (PySem.W.fnOf "voice_of" "Mixer.voice_of" (defArgs s_Mixer_voice_of) (defBody s_Mixer_voice_of) (defScope s_Mixer_voice_of) .none kV_Mixer_voice_of dc_Mixer_voice_of pm_Mixer_voice_of an_Mixer_voice_of cd_Mixer_voice_of ct_Mixer_voice_of), sl_Mixer_voice_of⟩)
    (c_Mixer_voice_of : PySem.W.codeIn K cd_Mixer_voice_of "Mixer.voice_of" = true)
    (k_Mixer_voice_of : PySem.W.keepIn K (.ref f_Mixer_voice_of) = true)
    (a_Mixer_add : PySem.W.findIn K (.ref cs_M) "add" = some (some (.ref f_Mixer_add)))
    (i_Mixer_add : PySem.W.isFn K (.ref f_Mixer_add) = true)
    (l_Mixer_add : K.lookup f_Mixer_add = some ⟨oc_Mixer_add, od_Mixer_add, .func (PySem.W.fnOf "add" "Mixer.add" (defArgs s_Mixer_add) (defBody s_Mixer_add) (defScope s_Mixer_add) .none kV_Mixer_add dc_Mixer_add pm_Mixer_add an_Mixer_add cd_Mixer_add ct_Mixer_add), sl_Mixer_add⟩)
    (c_Mixer_add : PySem.W.codeIn K cd_Mixer_add "Mixer.add" = true)
    (k_Mixer_add : PySem.W.keepIn K (.ref f_Mixer_add) = true)
    (a_Mixer_parcel : PySem.W.findIn K (.ref cs_M) "parcel" = some (some (.ref f_Mixer_parcel)))
    (i_Mixer_parcel : PySem.W.isFn K (.ref f_Mixer_parcel) = true)
    (l_Mixer_parcel : K.lookup f_Mixer_parcel = some ⟨oc_Mixer_parcel, od_Mixer_parcel, .func (PySem.W.fnOf "parcel" "Mixer.parcel" (defArgs s_Mixer_parcel) (defBody s_Mixer_parcel) (defScope s_Mixer_parcel) .none kV_Mixer_parcel dc_Mixer_parcel pm_Mixer_parcel an_Mixer_parcel cd_Mixer_parcel ct_Mixer_parcel), sl_Mixer_parcel⟩)
    (c_Mixer_parcel : PySem.W.codeIn K cd_Mixer_parcel "Mixer.parcel" = true)
    (k_Mixer_parcel : PySem.W.keepIn K (.ref f_Mixer_parcel) = true)
    (a_Mixer_end : PySem.W.findIn K (.ref cs_M) "end" = some (some (.ref f_Mixer_end)))
    (i_Mixer_end : PySem.W.isFn K (.ref f_Mixer_end) = true)
    (l_Mixer_end : K.lookup f_Mixer_end = some ⟨oc_Mixer_end, od_Mixer_end, .func (PySem.W.fnOf "end" "Mixer.end" (defArgs s_Mixer_end) (defBody s_Mixer_end) (defScope s_Mixer_end) .none kV_Mixer_end dc_Mixer_end pm_Mixer_end an_Mixer_end cd_Mixer_end ct_Mixer_end), sl_Mixer_end⟩)
    (c_Mixer_end : PySem.W.codeIn K cd_Mixer_end "Mixer.end" = true)
    (k_Mixer_end : PySem.W.keepIn K (.ref f_Mixer_end) = true)
    (a_Mixer_beat : PySem.W.findIn K (.ref cs_M) "beat" = some (some (.ref f_Mixer_beat)))
    (i_Mixer_beat : PySem.W.isFn K (.ref f_Mixer_beat) = true)
    (l_Mixer_beat : K.lookup f_Mixer_beat = some ⟨oc_Mixer_beat, od_Mixer_beat, .func (PySem.W.fnOf "beat" "Mixer.beat" (defArgs s_Mixer_beat) (defBody s_Mixer_beat) (defScope s_Mixer_beat) .none kV_Mixer_beat dc_Mixer_beat pm_Mixer_beat an_Mixer_beat cd_Mixer_beat ct_Mixer_beat), sl_Mixer_beat⟩)
    (c_Mixer_beat : PySem.W.codeIn K cd_Mixer_beat "Mixer.beat" = true)
    (k_Mixer_beat : PySem.W.keepIn K (.ref f_Mixer_beat) = true)
    (a_Mixer_lead : PySem.W.findIn K (.ref cs_M) "lead" = some (some (.ref f_Mixer_lead)))
    (i_Mixer_lead : PySem.W.isFn K (.ref f_Mixer_lead) = true)
    (l_Mixer_lead : K.lookup f_Mixer_lead = some ⟨oc_Mixer_lead, od_Mixer_lead, .func (PySem.W.fnOf "lead" "Mixer.lead" (defArgs s_Mixer_lead) (defBody s_Mixer_lead) (defScope s_Mixer_lead) .none kV_Mixer_lead dc_Mixer_lead pm_Mixer_lead an_Mixer_lead cd_Mixer_lead ct_Mixer_lead), sl_Mixer_lead⟩)
    (c_Mixer_lead : PySem.W.codeIn K cd_Mixer_lead "Mixer.lead" = true)
    (k_Mixer_lead : PySem.W.keepIn K (.ref f_Mixer_lead) = true)
    (a_Mixer_now : PySem.W.findIn K (.ref cs_M) "now" = some (some (.ref f_Mixer_now)))
    (i_Mixer_now : PySem.W.isFn K (.ref f_Mixer_now) = true)
    (l_Mixer_now : K.lookup f_Mixer_now = some ⟨oc_Mixer_now, od_Mixer_now, .func (PySem.W.fnOf "now" "Mixer.now" (defArgs s_Mixer_now) (defBody s_Mixer_now) (defScope s_Mixer_now) .none kV_Mixer_now dc_Mixer_now pm_Mixer_now an_Mixer_now cd_Mixer_now ct_Mixer_now), sl_Mixer_now⟩)
    (c_Mixer_now : PySem.W.codeIn K cd_Mixer_now "Mixer.now" = true)
    (k_Mixer_now : PySem.W.keepIn K (.ref f_Mixer_now) = true)
    (a_Mixer_missed : PySem.W.findIn K (.ref cs_M) "missed" = some (some (.ref f_Mixer_missed)))
    (i_Mixer_missed : PySem.W.isFn K (.ref f_Mixer_missed) = true)
    (l_Mixer_missed : K.lookup f_Mixer_missed = some ⟨oc_Mixer_missed, od_Mixer_missed, .func (PySem.W.fnOf "missed" "Mixer.missed" (defArgs s_Mixer_missed) (defBody s_Mixer_missed) (defScope s_Mixer_missed) .none kV_Mixer_missed dc_Mixer_missed pm_Mixer_missed an_Mixer_missed cd_Mixer_missed ct_Mixer_missed), sl_Mixer_missed⟩)
    (c_Mixer_missed : PySem.W.codeIn K cd_Mixer_missed "Mixer.missed" = true)
    (k_Mixer_missed : PySem.W.keepIn K (.ref f_Mixer_missed) = true)
    (a_Mixer_state_of : PySem.W.findIn K (.ref cs_M) "state_of" = some (some (.ref f_Mixer_state_of)))
    (i_Mixer_state_of : PySem.W.isFn K (.ref f_Mixer_state_of) = true)
    (l_Mixer_state_of : K.lookup f_Mixer_state_of = some ⟨oc_Mixer_state_of, od_Mixer_state_of, .func (PySem.W.fnOf "state_of" "Mixer.state_of" (defArgs s_Mixer_state_of) (defBody s_Mixer_state_of) (defScope s_Mixer_state_of) .none kV_Mixer_state_of dc_Mixer_state_of pm_Mixer_state_of an_Mixer_state_of cd_Mixer_state_of ct_Mixer_state_of), sl_Mixer_state_of⟩)
    (c_Mixer_state_of : PySem.W.codeIn K cd_Mixer_state_of "Mixer.state_of" = true)
    (k_Mixer_state_of : PySem.W.keepIn K (.ref f_Mixer_state_of) = true)
    (a_Mixer_states : PySem.W.findIn K (.ref cs_M) "states" = some (some (.ref f_Mixer_states)))
    (i_Mixer_states : PySem.W.isFn K (.ref f_Mixer_states) = true)
    (l_Mixer_states : K.lookup f_Mixer_states = some ⟨oc_Mixer_states, od_Mixer_states, .func (PySem.W.fnOf "states" "Mixer.states" (defArgs s_Mixer_states) (defBody s_Mixer_states) (defScope s_Mixer_states) .none kV_Mixer_states dc_Mixer_states pm_Mixer_states an_Mixer_states cd_Mixer_states ct_Mixer_states), sl_Mixer_states⟩)
    (c_Mixer_states : PySem.W.codeIn K cd_Mixer_states "Mixer.states" = true)
    (k_Mixer_states : PySem.W.keepIn K (.ref f_Mixer_states) = true)
    (a_Mixer_hush : PySem.W.findIn K (.ref cs_M) "hush" = some (some (.ref f_Mixer_hush)))
    (i_Mixer_hush : PySem.W.isFn K (.ref f_Mixer_hush) = true)
    (l_Mixer_hush : K.lookup f_Mixer_hush = some ⟨oc_Mixer_hush, od_Mixer_hush, .func (PySem.W.fnOf "hush" "Mixer.hush" (defArgs s_Mixer_hush) (defBody s_Mixer_hush) (defScope s_Mixer_hush) .none kV_Mixer_hush dc_Mixer_hush pm_Mixer_hush an_Mixer_hush cd_Mixer_hush ct_Mixer_hush), sl_Mixer_hush⟩)
    (c_Mixer_hush : PySem.W.codeIn K cd_Mixer_hush "Mixer.hush" = true)
    (k_Mixer_hush : PySem.W.keepIn K (.ref f_Mixer_hush) = true)
    (a_law_taken : PySem.W.nsIn K mainGlobals "_law_taken" = some (some (.ref f_law_taken)))
    (l_law_taken : K.lookup f_law_taken = some ⟨oc_law_taken, od_law_taken, .func (PySem.W.fnOf "_law_taken" "_law_taken" (defArgs s_law_taken) (defBody s_law_taken) (defScope s_law_taken) .none kV_law_taken dc_law_taken pm_law_taken an_law_taken cd_law_taken ct_law_taken), sl_law_taken⟩)
    (c_law_taken : PySem.W.codeIn K cd_law_taken "_law_taken" = true)
    (k_law_taken : PySem.W.keepIn K (.ref f_law_taken) = true)
    (a_law_share : PySem.W.nsIn K mainGlobals "_law_share" = some (some (.ref f_law_share)))
    (l_law_share : K.lookup f_law_share = some ⟨oc_law_share, od_law_share, .func (PySem.W.fnOf "_law_share" "_law_share" (defArgs s_law_share) (defBody s_law_share) (defScope s_law_share) .none kV_law_share dc_law_share pm_law_share an_law_share cd_law_share ct_law_share), sl_law_share⟩)
    (c_law_share : PySem.W.codeIn K cd_law_share "_law_share" = true)
    (k_law_share : PySem.W.keepIn K (.ref f_law_share) = true)
    (a_law_plus : PySem.W.nsIn K mainGlobals "_law_plus" = some (some (.ref f_law_plus)))
    (l_law_plus : K.lookup f_law_plus = some ⟨oc_law_plus, od_law_plus, .func (PySem.W.fnOf "_law_plus" "_law_plus" (defArgs s_law_plus) (defBody s_law_plus) (defScope s_law_plus) .none kV_law_plus dc_law_plus pm_law_plus an_law_plus cd_law_plus ct_law_plus), sl_law_plus⟩)
    (c_law_plus : PySem.W.codeIn K cd_law_plus "_law_plus" = true)
    (k_law_plus : PySem.W.keepIn K (.ref f_law_plus) = true)
    (a_law_times : PySem.W.nsIn K mainGlobals "_law_times" = some (some (.ref f_law_times)))
    (l_law_times : K.lookup f_law_times = some ⟨oc_law_times, od_law_times, .func (PySem.W.fnOf "_law_times" "_law_times" (defArgs s_law_times) (defBody s_law_times) (defScope s_law_times) .none kV_law_times dc_law_times pm_law_times an_law_times cd_law_times ct_law_times), sl_law_times⟩)
    (c_law_times : PySem.W.codeIn K cd_law_times "_law_times" = true)
    (k_law_times : PySem.W.keepIn K (.ref f_law_times) = true)
    (a_law_number : PySem.W.nsIn K mainGlobals "_law_number" = some (some (.ref f_law_number)))
    (l_law_number : K.lookup f_law_number = some ⟨oc_law_number, od_law_number, .func (PySem.W.fnOf "_law_number" "_law_number" (defArgs s_law_number) (defBody s_law_number) (defScope s_law_number) .none kV_law_number dc_law_number pm_law_number an_law_number cd_law_number ct_law_number), sl_law_number⟩)
    (c_law_number : PySem.W.codeIn K cd_law_number "_law_number" = true)
    (k_law_number : PySem.W.keepIn K (.ref f_law_number) = true)
    (a_law_pace : PySem.W.nsIn K mainGlobals "_law_pace" = some (some (.ref f_law_pace)))
    (l_law_pace : K.lookup f_law_pace = some ⟨oc_law_pace, od_law_pace, .func (PySem.W.fnOf "_law_pace" "_law_pace" (defArgs s_law_pace) (defBody s_law_pace) (defScope s_law_pace) .none kV_law_pace dc_law_pace pm_law_pace an_law_pace cd_law_pace ct_law_pace), sl_law_pace⟩)
    (c_law_pace : PySem.W.codeIn K cd_law_pace "_law_pace" = true)
    (k_law_pace : PySem.W.keepIn K (.ref f_law_pace) = true)
    (a_law : PySem.W.nsIn K mainGlobals "law" = some (some (.ref f_law)))
    (l_law : K.lookup f_law = some ⟨oc_law, od_law, .func (PySem.W.fnOf "law" "law" (defArgs s_law) (defBody s_law) (defScope s_law) .none kV_law dc_law pm_law an_law cd_law ct_law), sl_law⟩)
    (c_law : PySem.W.codeIn K cd_law "law" = true)
    (k_law : PySem.W.keepIn K (.ref f_law) = true)
    (z_isinstance : PySem.W.nsIn K mainGlobals "isinstance" = some none)
    (z_bool : PySem.W.nsIn K mainGlobals "bool" = some none)
    (z_int : PySem.W.nsIn K mainGlobals "int" = some none)
    (z_tuple : PySem.W.nsIn K mainGlobals "tuple" = some none)
    (z_len : PySem.W.nsIn K mainGlobals "len" = some none)
    (z_all : PySem.W.nsIn K mainGlobals "all" = some none)
    (z_any : PySem.W.nsIn K mainGlobals "any" = some none)
    (z_min : PySem.W.nsIn K mainGlobals "min" = some none)
    (z_max : PySem.W.nsIn K mainGlobals "max" = some none)
    (z_divmod : PySem.W.nsIn K mainGlobals "divmod" = some none)
    (z_enumerate : PySem.W.nsIn K mainGlobals "enumerate" = some none)
    (z_sorted : PySem.W.nsIn K mainGlobals "sorted" = some none)
    (z_list : PySem.W.nsIn K mainGlobals "list" = some none)
    (z_range : PySem.W.nsIn K mainGlobals "range" = some none)
    (z_abs : PySem.W.nsIn K mainGlobals "abs" = some none)
    (z_str : PySem.W.nsIn K mainGlobals "str" = some none)
    (z_gcd : PySem.W.nsIn K mainGlobals "gcd" = some (some (.builtin "math.gcd")))
    (v_MOST : PySem.W.nsIn K mainGlobals "MOST" = some (some (.int 1000 t_MOST)))
    (v_FULL : PySem.W.nsIn K mainGlobals "FULL" = some (some (.int 64 t_FULL)))
    (v_HUSHED : PySem.W.nsIn K mainGlobals "HUSHED" = some (some (.str "hushed" t_HUSHED)))
    (v_RISING : PySem.W.nsIn K mainGlobals "RISING" = some (some (.str "rising" t_RISING)))
    (v_ON : PySem.W.nsIn K mainGlobals "ON" = some (some (.str "on" t_ON)))
    (v_FALLING : PySem.W.nsIn K mainGlobals "FALLING" = some (some (.str "falling" t_FALLING)))
    (v_NOTHING : PySem.W.nsIn K mainGlobals "NOTHING" = some (some (.ref aN)))
    (l_NOTHING : K.lookup aN = some ⟨.type "tuple", odN, .seq #[.int 0 tN0, .int 1 tN1] nN, slN⟩) :
    ∃ fd : FuncData, (∀ (s : Shared) (v : Value), BindsTo s fd ⟨[v], []⟩ [("_law_script", v)]) ∧ ∀ base : Heap, K.In base → base.Ns mainGlobals mg → FnOk l.prog w K mg base CX0 10 fa fd ["_law_script"] (sp_law K) := by
  have e := hfa.symm.trans (PySem.W.mg_of X G a_law)
  cases e
  have B : Blt mg := ⟨PySem.W.mg_none_of X G z_isinstance, PySem.W.mg_none_of X G z_bool, PySem.W.mg_none_of X G z_int, PySem.W.mg_none_of X G z_tuple, PySem.W.mg_none_of X G z_len, PySem.W.mg_none_of X G z_all, PySem.W.mg_none_of X G z_any, PySem.W.mg_none_of X G z_max, PySem.W.mg_none_of X G z_divmod, PySem.W.mg_none_of X G z_enumerate, PySem.W.mg_none_of X G z_sorted, PySem.W.mg_none_of X G z_list, PySem.W.mg_none_of X G z_range, PySem.W.mg_none_of X G z_abs, PySem.W.mg_none_of X G z_str, PySem.W.mg_of X G z_gcd⟩
  have hMOST := PySem.W.mg_of X G v_MOST
  have sqN : ∀ H : Hp, SqT K H aN (frac 0) := fun H => .inr ⟨_, _, _, l_NOTHING, rfl, rfl, by show 2 ≤ sizeLine; decide, .cons ⟨_, rfl⟩ (.cons ⟨_, rfl⟩ .nil)⟩
  have TT : TC K mg := ⟨⟨_, PySem.W.mg_of X G v_NOTHING, sqN⟩, ⟨_, PySem.W.mg_of X G v_MOST⟩, ⟨_, PySem.W.mg_of X G v_FULL⟩, ⟨_, PySem.W.mg_of X G v_HUSHED⟩, ⟨_, PySem.W.mg_of X G v_RISING⟩, ⟨_, PySem.W.mg_of X G v_ON⟩, ⟨_, PySem.W.mg_of X G v_FALLING⟩⟩
  obtain ⟨cs, hcs⟩ : ∃ cs : Cs, cs = ⟨cs_L, cs_D, cs_V, cs_M⟩ := ⟨_, rfl⟩
  have eL : cs_L = cs.L := by rw [hcs]
  have eD : cs_D = cs.D := by rw [hcs]
  have eV : cs_V = cs.V := by rw [hcs]
  have eM : cs_M = cs.M := by rw [hcs]
  clear hcs
  subst eL eD eV eM
  have C_L : Cls K cs.L := ⟨pg_L, hd_L, po_L, sa_L⟩
  have T_L : TL K cs.L := ⟨C_L, nL1, nL2, nL3, nL4, nL5⟩
  have C_D : Cls K cs.D := ⟨pg_D, hd_D, po_D, sa_D⟩
  have T_D : TD K cs.D := ⟨C_D, nD1, nD2, nD3⟩
  have C_V : Cls K cs.V := ⟨pg_V, hd_V, po_V, sa_V⟩
  have T_V : TV K cs.V := ⟨C_V, nV1, nV2, nV3, nV4, nV5, nV6, nV7⟩
  have C_M : Cls K cs.M := ⟨pg_M, hd_M, po_M, sa_M⟩
  have T_M : TM K cs.M := ⟨C_M, nM1, nM2, nM3, nM4⟩
  have F_is_whole := fun_mk (st := s_is_whole) l_is_whole c_is_whole k_is_whole
  have b_is_whole := F_is_whole.binds (ps := ["number", "low", "high"]) fun _ _ _ _ _ _ us hl => match us, hl with | [_, _, _], _ => rfl
  have F_check_soft := fun_mk (st := s_check_soft) l_check_soft c_check_soft k_check_soft
  have b_check_soft := F_check_soft.binds (ps := ["soft"]) fun _ _ _ _ _ _ us hl => match us, hl with | [_], _ => rfl
  have F_check_name := fun_mk (st := s_check_name) l_check_name c_check_name k_check_name
  have b_check_name := F_check_name.binds (ps := ["name"]) fun _ _ _ _ _ _ us hl => match us, hl with | [_], _ => rfl
  have F_check_pace := fun_mk (st := s_check_pace) l_check_pace c_check_pace k_check_pace
  have b_check_pace := F_check_pace.binds (ps := ["pace"]) fun _ _ _ _ _ _ us hl => match us, hl with | [_], _ => rfl
  have F_check_wait := fun_mk (st := s_check_wait) l_check_wait c_check_wait k_check_wait
  have b_check_wait := F_check_wait.binds (ps := ["wait"]) fun _ _ _ _ _ _ us hl => match us, hl with | [_], _ => rfl
  have F_check_loudness := fun_mk (st := s_check_loudness) l_check_loudness c_check_loudness k_check_loudness
  have b_check_loudness := F_check_loudness.binds (ps := ["loudness"]) fun _ _ _ _ _ _ us hl => match us, hl with | [_], _ => rfl
  have F_ratio := fun_mk (st := s_ratio) l_ratio c_ratio k_ratio
  have b_ratio := F_ratio.binds (ps := ["top", "bottom"]) fun _ _ _ _ _ _ us hl => match us, hl with | [_, _], _ => rfl
  have F_plus := fun_mk (st := s_plus) l_plus c_plus k_plus
  have b_plus := F_plus.binds (ps := ["one", "other"]) fun _ _ _ _ _ _ us hl => match us, hl with | [_, _], _ => rfl
  have F_minus := fun_mk (st := s_minus) l_minus c_minus k_minus
  have b_minus := F_minus.binds (ps := ["one", "other"]) fun _ _ _ _ _ _ us hl => match us, hl with | [_, _], _ => rfl
  have F_times := fun_mk (st := s_times) l_times c_times k_times
  have b_times := F_times.binds (ps := ["one", "other"]) fun _ _ _ _ _ _ us hl => match us, hl with | [_, _], _ => rfl
  have F_Line_init := fun_mk (st := s_Line_init) l_Line_init c_Line_init k_Line_init
  have b_Line_init := F_Line_init.binds (ps := ["self", "pace", "begin"]) fun _ _ _ _ _ _ us hl => match us, hl with | [_, _, _], _ => rfl
  have F_Line_room := fun_mk (st := s_Line_room) l_Line_room c_Line_room k_Line_room
  have b_Line_room := F_Line_room.binds (ps := ["self"]) fun _ _ _ _ _ _ us hl => match us, hl with | [_], _ => rfl
  have F_Line_begun := fun_mk (st := s_Line_begun) l_Line_begun c_Line_begun k_Line_begun
  have b_Line_begun := F_Line_begun.binds (ps := ["self", "beat"]) fun _ _ _ _ _ _ us hl => match us, hl with | [_, _], _ => rfl
  have F_spot := fun_mk (st := s_spot) l_spot c_spot k_spot
  have b_spot := F_spot.binds (ps := ["pace", "passed"]) fun _ _ _ _ _ _ us hl => match us, hl with | [_, _], _ => rfl
  have F_wanted := fun_mk (st := s_wanted) l_wanted c_wanted k_wanted
  have b_wanted := F_wanted.binds (ps := ["pace", "passed"]) fun _ _ _ _ _ _ us hl => match us, hl with | [_, _], _ => rfl
  have F_Line_wants := fun_mk (st := s_Line_wants) l_Line_wants c_Line_wants k_Line_wants
  have b_Line_wants := F_Line_wants.binds (ps := ["self", "beat"]) fun _ _ _ _ _ _ us hl => match us, hl with | [_, _], _ => rfl
  have F_Line_over := fun_mk (st := s_Line_over) l_Line_over c_Line_over k_Line_over
  have b_Line_over := F_Line_over.binds (ps := ["self", "beat"]) fun _ _ _ _ _ _ us hl => match us, hl with | [_, _], _ => rfl
  have F_Line_lacks := fun_mk (st := s_Line_lacks) l_Line_lacks c_Line_lacks k_Line_lacks
  have b_Line_lacks := F_Line_lacks.binds (ps := ["self", "beat"]) fun _ _ _ _ _ _ us hl => match us, hl with | [_, _], _ => rfl
  have F_Line_ready := fun_mk (st := s_Line_ready) l_Line_ready c_Line_ready k_Line_ready
  have b_Line_ready := F_Line_ready.binds (ps := ["self", "beat"]) fun _ _ _ _ _ _ us hl => match us, hl with | [_, _], _ => rfl
  have F_Line_value := fun_mk (st := s_Line_value) l_Line_value c_Line_value k_Line_value
  have b_Line_value := F_Line_value.binds (ps := ["self", "beat"]) fun _ _ _ _ _ _ us hl => match us, hl with | [_, _], _ => rfl
  have F_Line_take := fun_mk (st := s_Line_take) l_Line_take c_Line_take k_Line_take
  have b_Line_take := F_Line_take.binds (ps := ["self", "place", "numbers"]) fun _ _ _ _ _ _ us hl => match us, hl with | [_, _, _], _ => rfl
  have F_Line_close := fun_mk (st := s_Line_close) l_Line_close c_Line_close k_Line_close
  have b_Line_close := F_Line_close.binds (ps := ["self", "many"]) fun _ _ _ _ _ _ us hl => match us, hl with | [_, _], _ => rfl
  have F_Loudness_init := fun_mk (st := s_Loudness_init) l_Loudness_init c_Loudness_init k_Loudness_init
  have b_Loudness_init := F_Loudness_init.binds (ps := ["self", "loudness"]) fun _ _ _ _ _ _ us hl => match us, hl with | [_, _], _ => rfl
  have F_Loudness_lead_on := fun_mk (st := s_Loudness_lead_on) l_Loudness_lead_on c_Loudness_lead_on k_Loudness_lead_on
  have b_Loudness_lead_on := F_Loudness_lead_on.binds (ps := ["self"]) fun _ _ _ _ _ _ us hl => match us, hl with | [_], _ => rfl
  have F_Loudness_lead_to := fun_mk (st := s_Loudness_lead_to) l_Loudness_lead_to c_Loudness_lead_to k_Loudness_lead_to
  have b_Loudness_lead_to := F_Loudness_lead_to.binds (ps := ["self", "loudness", "beats"]) fun _ _ _ _ _ _ us hl => match us, hl with | [_, _, _], _ => rfl
  have F_check_lead := fun_mk (st := s_check_lead) l_check_lead c_check_lead k_check_lead
  have b_check_lead := F_check_lead.binds (ps := ["loudness", "beats"]) fun _ _ _ _ _ _ us hl => match us, hl with | [_, _], _ => rfl
  have F_Voice_fall := fun_mk (st := s_Voice_fall) l_Voice_fall c_Voice_fall k_Voice_fall
  have b_Voice_fall := F_Voice_fall.binds (ps := ["self", "soft"]) fun _ _ _ _ _ _ us hl => match us, hl with | [_, _], _ => rfl
  have F_Voice_rise := fun_mk (st := s_Voice_rise) l_Voice_rise c_Voice_rise k_Voice_rise
  have b_Voice_rise := F_Voice_rise.binds (ps := ["self", "whole", "soft"]) fun _ _ _ _ _ _ us hl => match us, hl with | [_, _, _], _ => rfl
  have F_Voice_begin_fall := fun_mk (st := s_Voice_begin_fall) l_Voice_begin_fall c_Voice_begin_fall k_Voice_begin_fall
  have b_Voice_begin_fall := F_Voice_begin_fall.binds (ps := ["self", "soft"]) fun _ _ _ _ _ _ us hl => match us, hl with | [_, _], _ => rfl
  have F_Voice_sound := fun_mk (st := s_Voice_sound) l_Voice_sound c_Voice_sound k_Voice_sound
  have b_Voice_sound := F_Voice_sound.binds (ps := ["self", "whole", "soft"]) fun _ _ _ _ _ _ us hl => match us, hl with | [_, _, _], _ => rfl
  have F_Voice_init := fun_mk (st := s_Voice_init) l_Voice_init c_Voice_init k_Voice_init
  have b_Voice_init := F_Voice_init.binds (ps := ["self", "pace", "begin", "loudness"]) fun _ _ _ _ _ _ us hl => match us, hl with | [_, _, _, _], _ => rfl
  have F_Voice_give := fun_mk (st := s_Voice_give) l_Voice_give c_Voice_give k_Voice_give
  have b_Voice_give := F_Voice_give.binds (ps := ["self", "beat", "soft"]) fun _ _ _ _ _ _ us hl => match us, hl with | [_, _, _], _ => rfl
  have F_Mixer_init := fun_mk (st := s_Mixer_init) l_Mixer_init c_Mixer_init k_Mixer_init
  have b_Mixer_init := F_Mixer_init.binds (ps := ["self", "soft"]) fun _ _ _ _ _ _ us hl => match us, hl with | [_, _], _ => rfl
  have F_Mixer_voice_of := fun_mk (st := s_Mixer_voice_of) l_Mixer_voice_of c_Mixer_voice_of k_Mixer_voice_of
  have b_Mixer_voice_of := F_Mixer_voice_of.binds (ps := ["self", "name"]) fun _ _ _ _ _ _ us hl => match us, hl with | [_, _], _ => rfl
  have F_Mixer_add := fun_mk (st := s_Mixer_add) l_Mixer_add c_Mixer_add k_Mixer_add
  have b_Mixer_add := F_Mixer_add.binds (ps := ["self", "name", "pace", "wait", "loudness"]) fun _ _ _ _ _ _ us hl => match us, hl with | [_, _, _, _, _], _ => rfl
  have F_Mixer_parcel := fun_mk (st := s_Mixer_parcel) l_Mixer_parcel c_Mixer_parcel k_Mixer_parcel
  have b_Mixer_parcel := F_Mixer_parcel.binds (ps := ["self", "name", "place", "numbers"]) fun _ _ _ _ _ _ us hl => match us, hl with | [_, _, _, _], _ => rfl
  have F_Mixer_end := fun_mk (st := s_Mixer_end) l_Mixer_end c_Mixer_end k_Mixer_end
  have b_Mixer_end := F_Mixer_end.binds (ps := ["self", "name", "many"]) fun _ _ _ _ _ _ us hl => match us, hl with | [_, _, _], _ => rfl
  have F_Mixer_beat := fun_mk (st := s_Mixer_beat) l_Mixer_beat c_Mixer_beat k_Mixer_beat
  have b_Mixer_beat := F_Mixer_beat.binds (ps := ["self"]) fun _ _ _ _ _ _ us hl => match us, hl with | [_], _ => rfl
  have F_Mixer_lead := fun_mk (st := s_Mixer_lead) l_Mixer_lead c_Mixer_lead k_Mixer_lead
  have b_Mixer_lead := F_Mixer_lead.binds (ps := ["self", "name", "loudness", "beats"]) fun _ _ _ _ _ _ us hl => match us, hl with | [_, _, _, _], _ => rfl
  have F_Mixer_now := fun_mk (st := s_Mixer_now) l_Mixer_now c_Mixer_now k_Mixer_now
  have b_Mixer_now := F_Mixer_now.binds (ps := ["self"]) fun _ _ _ _ _ _ us hl => match us, hl with | [_], _ => rfl
  have F_Mixer_missed := fun_mk (st := s_Mixer_missed) l_Mixer_missed c_Mixer_missed k_Mixer_missed
  have b_Mixer_missed := F_Mixer_missed.binds (ps := ["self"]) fun _ _ _ _ _ _ us hl => match us, hl with | [_], _ => rfl
  have F_Mixer_state_of := fun_mk (st := s_Mixer_state_of) l_Mixer_state_of c_Mixer_state_of k_Mixer_state_of
  have b_Mixer_state_of := F_Mixer_state_of.binds (ps := ["self", "name"]) fun _ _ _ _ _ _ us hl => match us, hl with | [_, _], _ => rfl
  have F_Mixer_states := fun_mk (st := s_Mixer_states) l_Mixer_states c_Mixer_states k_Mixer_states
  have b_Mixer_states := F_Mixer_states.binds (ps := ["self"]) fun _ _ _ _ _ _ us hl => match us, hl with | [_], _ => rfl
  have F_Mixer_hush := fun_mk (st := s_Mixer_hush) l_Mixer_hush c_Mixer_hush k_Mixer_hush
  have b_Mixer_hush := F_Mixer_hush.binds (ps := ["self", "name"]) fun _ _ _ _ _ _ us hl => match us, hl with | [_, _], _ => rfl
  have F_law_taken := fun_mk (st := s_law_taken) l_law_taken c_law_taken k_law_taken
  have b_law_taken := F_law_taken.binds (ps := ["_law_row", "_law_many"]) fun _ _ _ _ _ _ us hl => match us, hl with | [_, _], _ => rfl
  have F_law_share := fun_mk (st := s_law_share) l_law_share c_law_share k_law_share
  have b_law_share := F_law_share.binds (ps := ["_law_top", "_law_bottom"]) fun _ _ _ _ _ _ us hl => match us, hl with | [_, _], _ => rfl
  have F_law_plus := fun_mk (st := s_law_plus) l_law_plus c_law_plus k_law_plus
  have b_law_plus := F_law_plus.binds (ps := ["_law_one", "_law_other"]) fun _ _ _ _ _ _ us hl => match us, hl with | [_, _], _ => rfl
  have F_law_times := fun_mk (st := s_law_times) l_law_times c_law_times k_law_times
  have b_law_times := F_law_times.binds (ps := ["_law_one", "_law_top", "_law_bottom"]) fun _ _ _ _ _ _ us hl => match us, hl with | [_, _, _], _ => rfl
  have F_law_number := fun_mk (st := s_law_number) l_law_number c_law_number k_law_number
  have b_law_number := F_law_number.binds (ps := ["_law_row"]) fun _ _ _ _ _ _ us hl => match us, hl with | [_], _ => rfl
  have F_law_pace := fun_mk (st := s_law_pace) l_law_pace c_law_pace k_law_pace
  have b_law_pace := F_law_pace.binds (ps := ["_law_row"]) fun _ _ _ _ _ _ us hl => match us, hl with | [_], _ => rfl
  have F_law := fun_mk (st := s_law) l_law c_law k_law
  refine ⟨PySem.W.fnOf "law" "law" (defArgs s_law) (defBody s_law) (defScope s_law) .none kV_law dc_law pm_law an_law cd_law ct_law, fun s v => .of_eq rfl, fun base _ _ => ?_⟩
  have G_is_whole : OwnF l.prog w K mg base "is_whole" 1 ["number", "low", "high"] sp_is_whole := ⟨_, _, ok_is_whole F_is_whole B, PySem.W.mg_of X G a_is_whole, k_is_whole, b_is_whole⟩
  have G_check_soft : OwnF l.prog w K mg base "check_soft" 2 ["soft"] (sp_in 1 16) := ⟨_, _, ok_check_soft F_check_soft G_is_whole, PySem.W.mg_of X G a_check_soft, k_check_soft, b_check_soft⟩
  have G_check_name : OwnF l.prog w K mg base "check_name" 2 ["name"] (sp_in 0 5) := ⟨_, _, ok_check_name F_check_name G_is_whole, PySem.W.mg_of X G a_check_name, k_check_name, b_check_name⟩
  have G_check_pace : OwnF l.prog w K mg base "check_pace" 2 ["pace"] sp_check_pace := ⟨_, _, ok_check_pace F_check_pace B G_is_whole, PySem.W.mg_of X G a_check_pace, k_check_pace, b_check_pace⟩
  have G_check_wait : OwnF l.prog w K mg base "check_wait" 2 ["wait"] (sp_in 0 64) := ⟨_, _, ok_check_wait F_check_wait G_is_whole, PySem.W.mg_of X G a_check_wait, k_check_wait, b_check_wait⟩
  have G_check_loudness : OwnF l.prog w K mg base "check_loudness" 2 ["loudness"] (sp_in 0 64) := ⟨_, _, ok_check_loudness F_check_loudness G_is_whole, PySem.W.mg_of X G a_check_loudness, k_check_loudness, b_check_loudness⟩
  have G_ratio : OwnF l.prog w K mg base "ratio" 1 ["top", "bottom"] sp_ratio := ⟨_, _, ok_ratio F_ratio B, PySem.W.mg_of X G a_ratio, k_ratio, b_ratio⟩
  have G_plus : OwnF l.prog w K mg base "plus" 2 ["one", "other"] (sp_two (· + ·) K) := ⟨_, _, ok_plus F_plus G_ratio, PySem.W.mg_of X G a_plus, k_plus, b_plus⟩
  have G_minus : OwnF l.prog w K mg base "minus" 2 ["one", "other"] (sp_two (· - ·) K) := ⟨_, _, ok_minus F_minus G_ratio, PySem.W.mg_of X G a_minus, k_minus, b_minus⟩
  have G_times : OwnF l.prog w K mg base "times" 2 ["one", "other"] (sp_two (· * ·) K) := ⟨_, _, ok_times F_times G_ratio, PySem.W.mg_of X G a_times, k_times, b_times⟩
  have G_Line_init : OwnC l.prog w K mg base cs.L "Line" 1 ["self", "pace", "begin"] (sp_Line_init K cs.L) := ⟨_, _, ok_Line_init F_Line_init T_L, PySem.W.mg_of X G aC_L, ⟨mk_L, a_Line_init, i_Line_init, kc_L⟩, b_Line_init⟩
  have G_Line_room : OwnM l.prog w K mg base cs.L "room" 1 ["self"] (sp_Line_room cs.L) := ⟨_, _, ok_Line_room F_Line_room T_L hMOST, C_L, ⟨a_Line_room, i_Line_room, k_Line_room⟩, b_Line_room⟩
  have G_Line_begun : OwnM l.prog w K mg base cs.L "begun" 1 ["self", "beat"] (sp_Line_begun cs.L) := ⟨_, _, ok_Line_begun F_Line_begun T_L, C_L, ⟨a_Line_begun, i_Line_begun, k_Line_begun⟩, b_Line_begun⟩
  have G_spot : OwnF l.prog w K mg base "spot" 1 ["pace", "passed"] sp_spot := ⟨_, _, ok_spot F_spot B, PySem.W.mg_of X G a_spot, k_spot, b_spot⟩
  have G_wanted : OwnF l.prog w K mg base "wanted" 2 ["pace", "passed"] sp_wanted := ⟨_, _, ok_wanted F_wanted G_spot, PySem.W.mg_of X G a_wanted, k_wanted, b_wanted⟩
  have G_Line_wants : OwnM l.prog w K mg base cs.L "wants" 3 ["self", "beat"] (sp_Line_wanted cs.L) := ⟨_, _, ok_Line_wants F_Line_wants T_L G_wanted, C_L, ⟨a_Line_wants, i_Line_wants, k_Line_wants⟩, b_Line_wants⟩
  have G_Line_over : OwnM l.prog w K mg base cs.L "over" 4 ["self", "beat"] (sp_Line_bool cs.L LineS.over) := ⟨_, _, ok_Line_over F_Line_over T_L G_Line_wants, C_L, ⟨a_Line_over, i_Line_over, k_Line_over⟩, b_Line_over⟩
  have G_Line_lacks : OwnM l.prog w K mg base cs.L "lacks" 5 ["self", "beat"] (sp_Line_bool cs.L LineS.lacks) := ⟨_, _, ok_Line_lacks F_Line_lacks T_L B G_Line_begun G_Line_over G_Line_wants, C_L, ⟨a_Line_lacks, i_Line_lacks, k_Line_lacks⟩, b_Line_lacks⟩
  have G_Line_ready : OwnM l.prog w K mg base cs.L "ready" 6 ["self", "beat"] (sp_Line_bool cs.L LineS.ready) := ⟨_, _, ok_Line_ready F_Line_ready G_Line_begun G_Line_over G_Line_lacks, C_L, ⟨a_Line_ready, i_Line_ready, k_Line_ready⟩, b_Line_ready⟩
  have G_Line_value : OwnM l.prog w K mg base cs.L "value" 2 ["self", "beat"] (sp_Line_value cs.L) := ⟨_, _, ok_Line_value F_Line_value T_L G_spot G_ratio, C_L, ⟨a_Line_value, i_Line_value, k_Line_value⟩, b_Line_value⟩
  have G_Line_take : OwnM l.prog w K mg base cs.L "take" 2 ["self", "place", "numbers"] (sp_Line_take K cs.L) := ⟨_, _, ok_Line_take F_Line_take T_L B hMOST G_is_whole G_Line_room, C_L, ⟨a_Line_take, i_Line_take, k_Line_take⟩, b_Line_take⟩
  have G_Line_close : OwnM l.prog w K mg base cs.L "close" 2 ["self", "many"] (sp_Line_close cs.L) := ⟨_, _, ok_Line_close F_Line_close T_L TT G_is_whole, C_L, ⟨a_Line_close, i_Line_close, k_Line_close⟩, b_Line_close⟩
  have G_Loudness_init : OwnC l.prog w K mg base cs.D "Loudness" 2 ["self", "loudness"] (sp_Loudness_init K cs.D) := ⟨_, _, ok_Loudness_init F_Loudness_init T_D TT G_ratio, PySem.W.mg_of X G aC_D, ⟨mk_D, a_Loudness_init, i_Loudness_init, kc_D⟩, b_Loudness_init⟩
  have G_Loudness_lead_on : OwnM l.prog w K mg base cs.D "lead_on" 3 ["self"] (sp_Loudness_lead_on K cs.D) := ⟨_, _, ok_Loudness_lead_on F_Loudness_lead_on T_D G_plus, C_D, ⟨a_Loudness_lead_on, i_Loudness_lead_on, k_Loudness_lead_on⟩, b_Loudness_lead_on⟩
  have G_Loudness_lead_to : OwnM l.prog w K mg base cs.D "lead_to" 3 ["self", "loudness", "beats"] (sp_Loudness_lead_to K cs.D) := ⟨_, _, ok_Loudness_lead_to F_Loudness_lead_to T_D TT G_ratio G_minus G_times, C_D, ⟨a_Loudness_lead_to, i_Loudness_lead_to, k_Loudness_lead_to⟩, b_Loudness_lead_to⟩
  have G_check_lead : OwnF l.prog w K mg base "check_lead" 3 ["loudness", "beats"] sp_check_lead := ⟨_, _, ok_check_lead F_check_lead G_check_loudness G_is_whole, PySem.W.mg_of X G a_check_lead, k_check_lead, b_check_lead⟩
  have G_Voice_fall : OwnM l.prog w K mg base cs.V "fall" 3 ["self", "soft"] (sp_Voice_fall K cs.V) := ⟨_, _, ok_Voice_fall F_Voice_fall T_V TT G_ratio G_times, C_V, ⟨a_Voice_fall, i_Voice_fall, k_Voice_fall⟩, b_Voice_fall⟩
  have G_Voice_rise : OwnM l.prog w K mg base cs.V "rise" 3 ["self", "whole", "soft"] (sp_Voice_rise K cs.V) := ⟨_, _, ok_Voice_rise F_Voice_rise T_V TT G_ratio G_times, C_V, ⟨a_Voice_rise, i_Voice_rise, k_Voice_rise⟩, b_Voice_rise⟩
  have G_Voice_begin_fall : OwnM l.prog w K mg base cs.V "begin_fall" 4 ["self", "soft"] (sp_Voice_begin_fall K cs.V) := ⟨_, _, ok_Voice_begin_fall F_Voice_begin_fall T_V TT G_Voice_fall, C_V, ⟨a_Voice_begin_fall, i_Voice_begin_fall, k_Voice_begin_fall⟩, b_Voice_begin_fall⟩
  have G_Voice_sound : OwnM l.prog w K mg base cs.V "sound" 4 ["self", "whole", "soft"] (sp_Voice_sound K cs.V) := ⟨_, _, ok_Voice_sound F_Voice_sound T_V TT G_Voice_rise, C_V, ⟨a_Voice_sound, i_Voice_sound, k_Voice_sound⟩, b_Voice_sound⟩
  have G_Voice_init : OwnC l.prog w K mg base cs.V "Voice" 4 ["self", "pace", "begin", "loudness"] (sp_Voice_init K cs) := ⟨_, _, ok_Voice_init F_Voice_init T_V TT G_Line_init G_Loudness_init, PySem.W.mg_of X G aC_V, ⟨mk_V, a_Voice_init, i_Voice_init, kc_V⟩, b_Voice_init⟩
  have G_Voice_give : OwnM l.prog w K mg base cs.V "give" 7 ["self", "beat", "soft"] (sp_Voice_give K cs) := ⟨_, _, ok_Voice_give F_Voice_give T_V T_D TT G_Loudness_lead_on G_Line_ready G_Voice_fall G_Line_value G_Voice_sound G_Voice_begin_fall G_times, C_V, ⟨a_Voice_give, i_Voice_give, k_Voice_give⟩, b_Voice_give⟩
  have G_Mixer_init : OwnC l.prog w K mg base cs.M "Mixer" 3 ["self", "soft"] (sp_Mixer_init K cs) := ⟨_, _, ok_Mixer_init F_Mixer_init T_M G_check_soft, PySem.W.mg_of X G aC_M, ⟨mk_M, a_Mixer_init, i_Mixer_init, kc_M⟩, b_Mixer_init⟩
  have G_Mixer_voice_of : OwnM l.prog w K mg base cs.M "voice_of" 3 ["self", "name"] (sp_Mixer_voice_of K cs) := ⟨_, _, ok_Mixer_voice_of F_Mixer_voice_of T_M G_check_name, C_M, ⟨a_Mixer_voice_of, i_Mixer_voice_of, k_Mixer_voice_of⟩, b_Mixer_voice_of⟩
  have G_Mixer_add : OwnM l.prog w K mg base cs.M "add" 6 ["self", "name", "pace", "wait", "loudness"] (sp_Mixer_add K cs) := ⟨_, _, ok_Mixer_add F_Mixer_add T_M G_check_name G_check_pace G_check_wait G_check_loudness G_Voice_init, C_M, ⟨a_Mixer_add, i_Mixer_add, k_Mixer_add⟩, b_Mixer_add⟩
  have G_Mixer_parcel : OwnM l.prog w K mg base cs.M "parcel" 4 ["self", "name", "place", "numbers"] (sp_Mixer_parcel K cs) := ⟨_, _, ok_Mixer_parcel F_Mixer_parcel T_V G_Mixer_voice_of G_Line_take, C_M, ⟨a_Mixer_parcel, i_Mixer_parcel, k_Mixer_parcel⟩, b_Mixer_parcel⟩
  have G_Mixer_end : OwnM l.prog w K mg base cs.M "end" 4 ["self", "name", "many"] (sp_Mixer_end K cs) := ⟨_, _, ok_Mixer_end F_Mixer_end T_V G_Mixer_voice_of G_Line_close, C_M, ⟨a_Mixer_end, i_Mixer_end, k_Mixer_end⟩, b_Mixer_end⟩
  have GX_ratio : OwnF l.prog w K mg base "ratio" 1 ["top", "bottom"] sp_ratioX := ⟨_, _, ok_ratioX F_ratio B, PySem.W.mg_of X G a_ratio, k_ratio, b_ratio⟩
  have GX_plus : OwnF l.prog w K mg base "plus" 2 ["one", "other"] (sp_twoX (· + ·) K) := ⟨_, _, ok_plusX F_plus GX_ratio, PySem.W.mg_of X G a_plus, k_plus, b_plus⟩
  have GX_on : OwnM l.prog w K mg base cs.D "lead_on" 3 ["self"] (sp_Loudness_lead_onX K cs.D) := ⟨_, _, ok_Loudness_lead_onX F_Loudness_lead_on T_D GX_plus, C_D, ⟨a_Loudness_lead_on, i_Loudness_lead_on, k_Loudness_lead_on⟩, b_Loudness_lead_on⟩
  have GX_give : OwnM l.prog w K mg base cs.V "give" 7 ["self", "beat", "soft"] (sp_Voice_giveX K cs) := ⟨_, _, ok_Voice_giveX F_Voice_give T_V T_D TT GX_on G_Line_ready G_Voice_fall G_Line_value G_Voice_sound G_Voice_begin_fall G_times, C_V, ⟨a_Voice_give, i_Voice_give, k_Voice_give⟩, b_Voice_give⟩
  have G_Mixer_beat : OwnM l.prog w K mg base cs.M "beat" 8 ["self"] (sp_Mixer_beatX K cs) := ⟨_, _, ok_Mixer_beatX F_Mixer_beat T_M T_V TT B G_Line_lacks GX_give G_plus, C_M, ⟨a_Mixer_beat, i_Mixer_beat, k_Mixer_beat⟩, b_Mixer_beat⟩
  have G_Mixer_lead : OwnM l.prog w K mg base cs.M "lead" 4 ["self", "name", "loudness", "beats"] (sp_Mixer_lead K cs) := ⟨_, _, ok_Mixer_lead F_Mixer_lead T_V G_Mixer_voice_of G_check_lead G_Loudness_lead_to, C_M, ⟨a_Mixer_lead, i_Mixer_lead, k_Mixer_lead⟩, b_Mixer_lead⟩
  have G_Mixer_now : OwnM l.prog w K mg base cs.M "now" 1 ["self"] (sp_Mixer_now K cs) := ⟨_, _, ok_Mixer_now F_Mixer_now T_M, C_M, ⟨a_Mixer_now, i_Mixer_now, k_Mixer_now⟩, b_Mixer_now⟩
  have G_Mixer_missed : OwnM l.prog w K mg base cs.M "missed" 1 ["self"] (sp_Mixer_missed K cs) := ⟨_, _, ok_Mixer_missed F_Mixer_missed T_M B, C_M, ⟨a_Mixer_missed, i_Mixer_missed, k_Mixer_missed⟩, b_Mixer_missed⟩
  have G_Mixer_state_of : OwnM l.prog w K mg base cs.M "state_of" 1 ["self", "name"] (sp_Mixer_state_of K cs) := ⟨_, _, ok_Mixer_state_of F_Mixer_state_of T_M T_V T_D, C_M, ⟨a_Mixer_state_of, i_Mixer_state_of, k_Mixer_state_of⟩, b_Mixer_state_of⟩
  have G_Mixer_states : OwnM l.prog w K mg base cs.M "states" 2 ["self"] (sp_Mixer_states K cs) := ⟨_, _, ok_Mixer_states F_Mixer_states T_M B G_Mixer_state_of, C_M, ⟨a_Mixer_states, i_Mixer_states, k_Mixer_states⟩, b_Mixer_states⟩
  have G_Mixer_hush : OwnM l.prog w K mg base cs.M "hush" 4 ["self", "name"] (sp_Mixer_heard K cs false) := ⟨_, _, ok_Mixer_hush F_Mixer_hush T_V G_Mixer_voice_of, C_M, ⟨a_Mixer_hush, i_Mixer_hush, k_Mixer_hush⟩, b_Mixer_hush⟩
  have G_law_taken : OwnF l.prog w K mg base "_law_taken" 1 ["_law_row", "_law_many"] (sp_taken K) := ⟨_, _, ok_law_taken F_law_taken B, PySem.W.mg_of X G a_law_taken, k_law_taken, b_law_taken⟩
  have G_law_share : OwnF l.prog w K mg base "_law_share" 1 ["_law_top", "_law_bottom"] sp_ratio := ⟨_, _, ok_law_share F_law_share B, PySem.W.mg_of X G a_law_share, k_law_share, b_law_share⟩
  have G_law_plus : OwnF l.prog w K mg base "_law_plus" 2 ["_law_one", "_law_other"] (sp_two (· + ·) K) := ⟨_, _, ok_law_plus F_law_plus G_law_share, PySem.W.mg_of X G a_law_plus, k_law_plus, b_law_plus⟩
  have G_law_times : OwnF l.prog w K mg base "_law_times" 2 ["_law_one", "_law_top", "_law_bottom"] (sp_timesW K) := ⟨_, _, ok_law_timesW F_law_times G_law_share, PySem.W.mg_of X G a_law_times, k_law_times, b_law_times⟩
  have G_law_number : OwnF l.prog w K mg base "_law_number" 2 ["_law_row"] (sp_drawn K (-999) 999) := ⟨_, _, ok_law_number F_law_number G_law_taken, PySem.W.mg_of X G a_law_number, k_law_number, b_law_number⟩
  have G_law_pace : OwnF l.prog w K mg base "_law_pace" 2 ["_law_row"] (sp_law_pace K) := ⟨_, _, ok_law_pace F_law_pace G_law_taken, PySem.W.mg_of X G a_law_pace, k_law_pace, b_law_pace⟩
  exact ok_law B ⟨PySem.W.mg_none_of X G z_min, PySem.W.mg_none_of X G z_int, G_law_taken, G_law_number, G_law_pace, G_law_share, G_law_plus, G_law_times, G_Mixer_init, G_Mixer_add, G_Mixer_parcel, G_Mixer_lead, G_Mixer_hush, G_Mixer_beat, G_Mixer_missed, G_Mixer_states⟩ F_law
theorem walk {l : PySem.W.OpenLaw} {q : Program} {loose : List Str} {XP : (Str → Option Value) → Heap → Prop} {YP : World → Heap → Prop} {d : DefRec} {K : Params → PySem.W.Frag} (hn : l.most = some 63) (hdf : d.params.defaults = [])
    (hY : ∀ (w : World) (h : Heap), YP w h → (K w.params).In h)
    (F : ∀ (w : World) (mg : Str → Option Value) (fa : Addr) (h : Heap), (K w.params).In h → h.Ns mainGlobals mg → mg d.name = some (.ref fa) →
      ∃ fd : FuncData, (∀ (s : Shared) (u : Value), BindsTo s fd ⟨[u], []⟩ [("_law_script", u)]) ∧ ∀ base : Heap, (K w.params).In base → base.Ns mainGlobals mg → FnOk l.prog w (K w.params) mg base CX0 10 fa fd ["_law_script"] (sp_law (K w.params))) :
    PySem.W.WalkO q loose XP YP l.row.toRowW d [] (fun f vs => PySem.call f vs) :=
  L2.walk_of (n := 63) (k := 10) (x := "_law_script") (CX := fun _ => CX0) (sp := fun w => sp_law (K w.params)) hn (by decide) hdf ⟨rfl, by decide, by decide⟩ hY F (fun _ _ a ns hl _ hS => ⟨a, ns, rfl, hS, hl, fun _ => rfl⟩) fun _ _ _ _ _ z => z
end Mx

open PySem PySem.W PyProof.Rows
set_option maxRecDepth 100000 in
set_option maxHeartbeats 0 in
theorem PySem.Challenge.cw_mixserver_k16_whole_loudness_and_softnes_holds : PySem.Challenge.rw_mixserver_k16_whole_loudness_and_softnes.Holds := by
  w_on; o_law; k_head; (case hw => w_witness2)
  k_fill
  refine Mx.walk (l := PySem.Challenge.rw_mixserver_k16_whole_loudness_and_softnes) rfl rfl (fun w h Y => PySem.W.kIn_of Y) ?F
  case F =>
    intro w mg fa h KX G hmg
    refine' Mx.all_mk KX G hmg ?aC_L ?pg_L ?hd_L ?po_L ?sa_L ?mk_L ?kc_L ?nL1 ?nL2 ?nL3 ?nL4 ?nL5 ?aC_D ?pg_D ?hd_D ?po_D ?sa_D ?mk_D ?kc_D ?nD1 ?nD2 ?nD3 ?aC_V ?pg_V ?hd_V ?po_V ?sa_V ?mk_V ?kc_V ?nV1 ?nV2 ?nV3 ?nV4 ?nV5 ?nV6 ?nV7 ?aC_M ?pg_M ?hd_M ?po_M ?sa_M ?mk_M ?kc_M ?nM1 ?nM2 ?nM3 ?nM4 ?a_is_whole ?l_is_whole ?c_is_whole ?k_is_whole ?a_check_soft ?l_check_soft ?c_check_soft ?k_check_soft ?a_check_name ?l_check_name ?c_check_name ?k_check_name ?a_check_pace ?l_check_pace ?c_check_pace ?k_check_pace ?a_check_wait ?l_check_wait ?c_check_wait ?k_check_wait ?a_check_loudness ?l_check_loudness ?c_check_loudness ?k_check_loudness ?a_ratio ?l_ratio ?c_ratio ?k_ratio ?a_plus ?l_plus ?c_plus ?k_plus ?a_minus ?l_minus ?c_minus ?k_minus ?a_times ?l_times ?c_times ?k_times ?a_Line_init ?i_Line_init ?l_Line_init ?c_Line_init ?k_Line_init ?a_Line_room ?i_Line_room ?l_Line_room ?c_Line_room ?k_Line_room ?a_Line_begun ?i_Line_begun ?l_Line_begun ?c_Line_begun ?k_Line_begun ?a_spot ?l_spot ?c_spot ?k_spot ?a_wanted ?l_wanted ?c_wanted ?k_wanted ?a_Line_wants ?i_Line_wants ?l_Line_wants ?c_Line_wants ?k_Line_wants ?a_Line_over ?i_Line_over ?l_Line_over ?c_Line_over ?k_Line_over ?a_Line_lacks ?i_Line_lacks ?l_Line_lacks ?c_Line_lacks ?k_Line_lacks ?a_Line_ready ?i_Line_ready ?l_Line_ready ?c_Line_ready ?k_Line_ready ?a_Line_value ?i_Line_value ?l_Line_value ?c_Line_value ?k_Line_value ?a_Line_take ?i_Line_take ?l_Line_take ?c_Line_take ?k_Line_take ?a_Line_close ?i_Line_close ?l_Line_close ?c_Line_close ?k_Line_close ?a_Loudness_init ?i_Loudness_init ?l_Loudness_init ?c_Loudness_init ?k_Loudness_init ?a_Loudness_lead_on ?i_Loudness_lead_on ?l_Loudness_lead_on ?c_Loudness_lead_on ?k_Loudness_lead_on ?a_Loudness_lead_to ?i_Loudness_lead_to ?l_Loudness_lead_to ?c_Loudness_lead_to ?k_Loudness_lead_to ?a_check_lead ?l_check_lead ?c_check_lead ?k_check_lead ?a_Voice_fall ?i_Voice_fall ?l_Voice_fall ?c_Voice_fall ?k_Voice_fall ?a_Voice_rise ?i_Voice_rise ?l_Voice_rise ?c_Voice_rise ?k_Voice_rise ?a_Voice_begin_fall ?i_Voice_begin_fall ?l_Voice_begin_fall ?c_Voice_begin_fall ?k_Voice_begin_fall ?a_Voice_sound ?i_Voice_sound ?l_Voice_sound ?c_Voice_sound ?k_Voice_sound ?a_Voice_init ?i_Voice_init ?l_Voice_init ?c_Voice_init ?k_Voice_init ?a_Voice_give ?i_Voice_give ?l_Voice_give ?c_Voice_give ?k_Voice_give ?a_Mixer_init ?i_Mixer_init ?l_Mixer_init ?c_Mixer_init ?k_Mixer_init ?a_Mixer_voice_of ?i_Mixer_voice_of ?l_Mixer_voice_of ?c_Mixer_voice_of ?k_Mixer_voice_of ?a_Mixer_add ?i_Mixer_add ?l_Mixer_add ?c_Mixer_add ?k_Mixer_add ?a_Mixer_parcel ?i_Mixer_parcel ?l_Mixer_parcel ?c_Mixer_parcel ?k_Mixer_parcel ?a_Mixer_end ?i_Mixer_end ?l_Mixer_end ?c_Mixer_end ?k_Mixer_end ?a_Mixer_beat ?i_Mixer_beat ?l_Mixer_beat ?c_Mixer_beat ?k_Mixer_beat ?a_Mixer_lead ?i_Mixer_lead ?l_Mixer_lead ?c_Mixer_lead ?k_Mixer_lead ?a_Mixer_now ?i_Mixer_now ?l_Mixer_now ?c_Mixer_now ?k_Mixer_now ?a_Mixer_missed ?i_Mixer_missed ?l_Mixer_missed ?c_Mixer_missed ?k_Mixer_missed ?a_Mixer_state_of ?i_Mixer_state_of ?l_Mixer_state_of ?c_Mixer_state_of ?k_Mixer_state_of ?a_Mixer_states ?i_Mixer_states ?l_Mixer_states ?c_Mixer_states ?k_Mixer_states ?a_Mixer_hush ?i_Mixer_hush ?l_Mixer_hush ?c_Mixer_hush ?k_Mixer_hush ?a_law_taken ?l_law_taken ?c_law_taken ?k_law_taken ?a_law_share ?l_law_share ?c_law_share ?k_law_share ?a_law_plus ?l_law_plus ?c_law_plus ?k_law_plus ?a_law_times ?l_law_times ?c_law_times ?k_law_times ?a_law_number ?l_law_number ?c_law_number ?k_law_number ?a_law_pace ?l_law_pace ?c_law_pace ?k_law_pace ?a_law ?l_law ?c_law ?k_law ?z_isinstance ?z_bool ?z_int ?z_tuple ?z_len ?z_all ?z_any ?z_min ?z_max ?z_divmod ?z_enumerate ?z_sorted ?z_list ?z_range ?z_abs ?z_str ?z_gcd ?v_MOST ?v_FULL ?v_HUSHED ?v_RISING ?v_ON ?v_FALLING ?v_NOTHING ?l_NOTHING
    (case aC_L => k_is)
    (case pg_L => k_is)
    (case hd_L => k_is)
    (case po_L => k_is)
    (case sa_L => k_is)
    (case mk_L => k_is)
    (case kc_L => k_is)
    (case nL1 => k_is)
    (case nL2 => k_is)
    (case nL3 => k_is)
    (case nL4 => k_is)
    (case nL5 => k_is)
    (case aC_D => k_is)
    (case pg_D => k_is)
    (case hd_D => k_is)
    (case po_D => k_is)
    (case sa_D => k_is)
    (case mk_D => k_is)
    (case kc_D => k_is)
    (case nD1 => k_is)
    (case nD2 => k_is)
    (case nD3 => k_is)
    (case aC_V => k_is)
    (case pg_V => k_is)
    (case hd_V => k_is)
    (case po_V => k_is)
    (case sa_V => k_is)
    (case mk_V => k_is)
    (case kc_V => k_is)
    (case nV1 => k_is)
    (case nV2 => k_is)
    (case nV3 => k_is)
    (case nV4 => k_is)
    (case nV5 => k_is)
    (case nV6 => k_is)
    (case nV7 => k_is)
    (case aC_M => k_is)
    (case pg_M => k_is)
    (case hd_M => k_is)
    (case po_M => k_is)
    (case sa_M => k_is)
    (case mk_M => k_is)
    (case kc_M => k_is)
    (case nM1 => k_is)
    (case nM2 => k_is)
    (case nM3 => k_is)
    (case nM4 => k_is)
    (case a_is_whole => k_is)
    (case l_is_whole => k_is)
    (case c_is_whole => k_is)
    (case k_is_whole => k_is)
    (case a_check_soft => k_is)
    (case l_check_soft => k_is)
    (case c_check_soft => k_is)
    (case k_check_soft => k_is)
    (case a_check_name => k_is)
    (case l_check_name => k_is)
    (case c_check_name => k_is)
    (case k_check_name => k_is)
    (case a_check_pace => k_is)
    (case l_check_pace => k_is)
    (case c_check_pace => k_is)
    (case k_check_pace => k_is)
    (case a_check_wait => k_is)
    (case l_check_wait => k_is)
    (case c_check_wait => k_is)
    (case k_check_wait => k_is)
    (case a_check_loudness => k_is)
    (case l_check_loudness => k_is)
    (case c_check_loudness => k_is)
    (case k_check_loudness => k_is)
    (case a_ratio => k_is)
    (case l_ratio => k_is)
    (case c_ratio => k_is)
    (case k_ratio => k_is)
    (case a_plus => k_is)
    (case l_plus => k_is)
    (case c_plus => k_is)
    (case k_plus => k_is)
    (case a_minus => k_is)
    (case l_minus => k_is)
    (case c_minus => k_is)
    (case k_minus => k_is)
    (case a_times => k_is)
    (case l_times => k_is)
    (case c_times => k_is)
    (case k_times => k_is)
    (case a_Line_init => k_is)
    (case i_Line_init => k_is)
    (case l_Line_init => k_is)
    (case c_Line_init => k_is)
    (case k_Line_init => k_is)
    (case a_Line_room => k_is)
    (case i_Line_room => k_is)
    (case l_Line_room => k_is)
    (case c_Line_room => k_is)
    (case k_Line_room => k_is)
    (case a_Line_begun => k_is)
    (case i_Line_begun => k_is)
    (case l_Line_begun => k_is)
    (case c_Line_begun => k_is)
    (case k_Line_begun => k_is)
    (case a_spot => k_is)
    (case l_spot => k_is)
    (case c_spot => k_is)
    (case k_spot => k_is)
    (case a_wanted => k_is)
    (case l_wanted => k_is)
    (case c_wanted => k_is)
    (case k_wanted => k_is)
    (case a_Line_wants => k_is)
    (case i_Line_wants => k_is)
    (case l_Line_wants => k_is)
    (case c_Line_wants => k_is)
    (case k_Line_wants => k_is)
    (case a_Line_over => k_is)
    (case i_Line_over => k_is)
    (case l_Line_over => k_is)
    (case c_Line_over => k_is)
    (case k_Line_over => k_is)
    (case a_Line_lacks => k_is)
    (case i_Line_lacks => k_is)
    (case l_Line_lacks => k_is)
    (case c_Line_lacks => k_is)
    (case k_Line_lacks => k_is)
    (case a_Line_ready => k_is)
    (case i_Line_ready => k_is)
    (case l_Line_ready => k_is)
    (case c_Line_ready => k_is)
    (case k_Line_ready => k_is)
    (case a_Line_value => k_is)
    (case i_Line_value => k_is)
    (case l_Line_value => k_is)
    (case c_Line_value => k_is)
    (case k_Line_value => k_is)
    (case a_Line_take => k_is)
    (case i_Line_take => k_is)
    (case l_Line_take => k_is)
    (case c_Line_take => k_is)
    (case k_Line_take => k_is)
    (case a_Line_close => k_is)
    (case i_Line_close => k_is)
    (case l_Line_close => k_is)
    (case c_Line_close => k_is)
    (case k_Line_close => k_is)
    (case a_Loudness_init => k_is)
    (case i_Loudness_init => k_is)
    (case l_Loudness_init => k_is)
    (case c_Loudness_init => k_is)
    (case k_Loudness_init => k_is)
    (case a_Loudness_lead_on => k_is)
    (case i_Loudness_lead_on => k_is)
    (case l_Loudness_lead_on => k_is)
    (case c_Loudness_lead_on => k_is)
    (case k_Loudness_lead_on => k_is)
    (case a_Loudness_lead_to => k_is)
    (case i_Loudness_lead_to => k_is)
    (case l_Loudness_lead_to => k_is)
    (case c_Loudness_lead_to => k_is)
    (case k_Loudness_lead_to => k_is)
    (case a_check_lead => k_is)
    (case l_check_lead => k_is)
    (case c_check_lead => k_is)
    (case k_check_lead => k_is)
    (case a_Voice_fall => k_is)
    (case i_Voice_fall => k_is)
    (case l_Voice_fall => k_is)
    (case c_Voice_fall => k_is)
    (case k_Voice_fall => k_is)
    (case a_Voice_rise => k_is)
    (case i_Voice_rise => k_is)
    (case l_Voice_rise => k_is)
    (case c_Voice_rise => k_is)
    (case k_Voice_rise => k_is)
    (case a_Voice_begin_fall => k_is)
    (case i_Voice_begin_fall => k_is)
    (case l_Voice_begin_fall => k_is)
    (case c_Voice_begin_fall => k_is)
    (case k_Voice_begin_fall => k_is)
    (case a_Voice_sound => k_is)
    (case i_Voice_sound => k_is)
    (case l_Voice_sound => k_is)
    (case c_Voice_sound => k_is)
    (case k_Voice_sound => k_is)
    (case a_Voice_init => k_is)
    (case i_Voice_init => k_is)
    (case l_Voice_init => k_is)
    (case c_Voice_init => k_is)
    (case k_Voice_init => k_is)
    (case a_Voice_give => k_is)
    (case i_Voice_give => k_is)
    (case l_Voice_give => k_is)
    (case c_Voice_give => k_is)
    (case k_Voice_give => k_is)
    (case a_Mixer_init => k_is)
    (case i_Mixer_init => k_is)
    (case l_Mixer_init => k_is)
    (case c_Mixer_init => k_is)
    (case k_Mixer_init => k_is)
    (case a_Mixer_voice_of => k_is)
    (case i_Mixer_voice_of => k_is)
    (case l_Mixer_voice_of => k_is)
    (case c_Mixer_voice_of => k_is)
    (case k_Mixer_voice_of => k_is)
    (case a_Mixer_add => k_is)
    (case i_Mixer_add => k_is)
    (case l_Mixer_add => k_is)
    (case c_Mixer_add => k_is)
    (case k_Mixer_add => k_is)
    (case a_Mixer_parcel => k_is)
    (case i_Mixer_parcel => k_is)
    (case l_Mixer_parcel => k_is)
    (case c_Mixer_parcel => k_is)
    (case k_Mixer_parcel => k_is)
    (case a_Mixer_end => k_is)
    (case i_Mixer_end => k_is)
    (case l_Mixer_end => k_is)
    (case c_Mixer_end => k_is)
    (case k_Mixer_end => k_is)
    (case a_Mixer_beat => k_is)
    (case i_Mixer_beat => k_is)
    (case l_Mixer_beat => k_is)
    (case c_Mixer_beat => k_is)
    (case k_Mixer_beat => k_is)
    (case a_Mixer_lead => k_is)
    (case i_Mixer_lead => k_is)
    (case l_Mixer_lead => k_is)
    (case c_Mixer_lead => k_is)
    (case k_Mixer_lead => k_is)
    (case a_Mixer_now => k_is)
    (case i_Mixer_now => k_is)
    (case l_Mixer_now => k_is)
    (case c_Mixer_now => k_is)
    (case k_Mixer_now => k_is)
    (case a_Mixer_missed => k_is)
    (case i_Mixer_missed => k_is)
    (case l_Mixer_missed => k_is)
    (case c_Mixer_missed => k_is)
    (case k_Mixer_missed => k_is)
    (case a_Mixer_state_of => k_is)
    (case i_Mixer_state_of => k_is)
    (case l_Mixer_state_of => k_is)
    (case c_Mixer_state_of => k_is)
    (case k_Mixer_state_of => k_is)
    (case a_Mixer_states => k_is)
    (case i_Mixer_states => k_is)
    (case l_Mixer_states => k_is)
    (case c_Mixer_states => k_is)
    (case k_Mixer_states => k_is)
    (case a_Mixer_hush => k_is)
    (case i_Mixer_hush => k_is)
    (case l_Mixer_hush => k_is)
    (case c_Mixer_hush => k_is)
    (case k_Mixer_hush => k_is)
    (case a_law_taken => k_is)
    (case l_law_taken => k_is)
    (case c_law_taken => k_is)
    (case k_law_taken => k_is)
    (case a_law_share => k_is)
    (case l_law_share => k_is)
    (case c_law_share => k_is)
    (case k_law_share => k_is)
    (case a_law_plus => k_is)
    (case l_law_plus => k_is)
    (case c_law_plus => k_is)
    (case k_law_plus => k_is)
    (case a_law_times => k_is)
    (case l_law_times => k_is)
    (case c_law_times => k_is)
    (case k_law_times => k_is)
    (case a_law_number => k_is)
    (case l_law_number => k_is)
    (case c_law_number => k_is)
    (case k_law_number => k_is)
    (case a_law_pace => k_is)
    (case l_law_pace => k_is)
    (case c_law_pace => k_is)
    (case k_law_pace => k_is)
    (case a_law => k_is)
    (case l_law => k_is)
    (case c_law => k_is)
    (case k_law => k_is)
    (case z_isinstance => k_is)
    (case z_bool => k_is)
    (case z_int => k_is)
    (case z_tuple => k_is)
    (case z_len => k_is)
    (case z_all => k_is)
    (case z_any => k_is)
    (case z_min => k_is)
    (case z_max => k_is)
    (case z_divmod => k_is)
    (case z_enumerate => k_is)
    (case z_sorted => k_is)
    (case z_list => k_is)
    (case z_range => k_is)
    (case z_abs => k_is)
    (case z_str => k_is)
    (case z_gcd => k_is)
    (case v_MOST => k_is)
    (case v_FULL => k_is)
    (case v_HUSHED => k_is)
    (case v_RISING => k_is)
    (case v_ON => k_is)
    (case v_FALLING => k_is)
    (case v_NOTHING => k_is)
    (case l_NOTHING => k_is)
#print axioms PySem.Challenge.cw_mixserver_k16_whole_loudness_and_softnes_holds

