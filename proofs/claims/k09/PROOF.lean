import PyProof.Rows.All
import Wide.All
import OpenK.AllK
import Wide.FinOn
import HandS.ForMost
import HandS.Gcd
import HandS.Wide
import HandS.WideBits
import HandS.IsInst
import HandS.SetKeys
import KE.GoesEnumKw
import HandS.More
import KE.KEqSeq
import HandS.Style
import PySem.Challenge.RW_mixserver_k09_arrivals_judged
set_option Elab.async false
set_option linter.all false
set_option maxRecDepth 100000
set_option maxHeartbeats 1000000
namespace Mx
open PySem L2

/-! ### own defs, methods, classes as bundles -/
structure OwnF (P : Program) (w : World) (K : PySem.W.Frag) (mg : Str → Option Value) (base : Heap) (x : Str) (k : Nat) (ps : List Str) (sp : Sp) : Prop where
  ex : ∃ (f : Addr) (fd : FuncData), FnOk P w K mg base CX0 k f fd ps sp ∧ mg x = some (.ref f) ∧ PySem.W.keepIn K (.ref f) = true ∧ Binds K fd ps []
structure OwnM (P : Program) (w : World) (K : PySem.W.Frag) (mg : Str → Option Value) (base : Heap) (C : Addr) (m : Str) (k : Nat) (ps : List Str) (sp : Sp) : Prop where
  ex : ∃ (f : Addr) (fd : FuncData), FnOk P w K mg base CX0 k f fd ps sp ∧ Cls K C ∧ Meth K C m f ∧ Binds K fd ps []
structure OwnC (P : Program) (w : World) (K : PySem.W.Frag) (mg : Str → Option Value) (base : Heap) (C : Addr) (x : Str) (k : Nat) (ps : List Str) (sp : Sp) : Prop where
  ex : ∃ (f : Addr) (fd : FuncData), FnOk P w K mg base CX0 k f fd ps sp ∧ mg x = some (.ref C) ∧ Mk K C f ∧ Binds K fd ps []
section
variable {X : Cx} {x m : Str} {k : Nat} {ps : List Str} {sp : Sp} {C : Addr} {p pos apos : Pos} {e o : Expr} {es : List Expr} {t : TA} {to : TE}
theorem p_call (G : OwnF X.prog X.w X.K X.mg X.base x k ps sp) (hr : Room k X.A) (ha : PA X (e :: es) t) (hg : Gl X x := by rfl) (hdb : (x == ("__debug__" : Str)) = false := by decide)
    (he : starEach (e :: es) X.env = (false, eval e X.env) :: starEach es X.env := by rfl) (hpl : (backTo pos (starEach es X.env)).any (·.1) = false := by rfl) :
    PE X (.Call (.Name x p) (e :: es) [] pos) (tCall sp [] E0 t) := by
  obtain ⟨f, fd, G, hm, hk, hb⟩ := G.ex
  exact pe_call G hr hg hm hk hb .nil pass0 ha hdb he hpl
theorem p_make (G : OwnC X.prog X.w X.K X.mg X.base C x k ps sp) (hr : Room (k + 1) X.A) (ha : PA X (e :: es) t) (hg : Gl X x := by rfl) (hdb : (x == ("__debug__" : Str)) = false := by decide)
    (he : starEach (e :: es) X.env = (false, eval e X.env) :: starEach es X.env := by rfl) (hpl : (backTo pos (starEach es X.env)).any (·.1) = false := by rfl) :
    PE X (.Call (.Name x p) (e :: es) [] pos) (tMake C sp [] E0 t) := by
  obtain ⟨f, fd, G, hm, hM, hb⟩ := G.ex
  exact pe_make hM G hr hg hm hb .nil pass0 ha hdb he hpl
theorem p_meth {pl : Sem Bool} (G : OwnM X.prog X.w X.K X.mg X.base C m k ps sp) (hr : Room k X.A) (ho : PE X o to) (ha : PA X (e :: es) t)
    (hst : starEach (e :: es) X.env = (false, eval e X.env) :: starEach es X.env := by rfl) (hpl : (backTo pos (starEach es X.env)).any (·.1) = false := by rfl)
    (ht : eval (.Call (.Attribute o m apos) (e :: es) [] pos) X.env = (do
      let ov ← eval o X.env
      standAt apos.atName
      let (f, first) ← holding [ov] (getMethod ov m pl)
      callWith pos f first (backTo pos (starEach (e :: es) X.env)) (backToKw pos (keywordEach [] X.env))) := by rfl) :
    PE X (.Call (.Attribute o m apos) (e :: es) [] pos) (tMeth C m sp [] E0 to t) := by
  obtain ⟨f, fd, G, hc, hm, hb⟩ := G.ex
  exact pe_meth ho hc hm G hr hb .nil pass0 ha hst hpl ht
theorem p_meth0 {pl : Sem Bool} (G : OwnM X.prog X.w X.K X.mg X.base C m k ps sp) (hr : Room k X.A) (ho : PE X o to)
    (ht : eval (.Call (.Attribute o m apos) [] [] pos) X.env = (do
      let ov ← eval o X.env
      standAt apos.atName
      let (f, first) ← holding [ov] (getMethod ov m pl)
      callWith pos f first (backTo pos (starEach [] X.env)) (backToKw pos (keywordEach [] X.env))) := by rfl) :
    PE X (.Call (.Attribute o m apos) [] [] pos) (tMeth C m sp [] E0 to tNil) := by
  obtain ⟨f, fd, G, hc, hm, hb⟩ := G.ex
  exact pe_meth0 ho hc hm G hr hb .nil pass0 ht
end

/-! ### o.f as a target in a tuple of targets -/
def gFld (K : PySem.W.Frag) (to : TE) (f : Str) : TG := fun y σ H Q => to σ H fun x H2 => ∃ a C dx fs, x = .ref a ∧ H2 a = some (.ins C dx fs) ∧ Cls K C ∧ NoAttr K C f ∧ fs.length < 1000 ∧ Q σ (upd H2 a (.ins C dx (putF f y fs)))
theorem pg_fld {X : Cx} {o : Expr} {to : TE} {f : Str} {pos : Pos} (ho : PE X o to)
    (ha : ∀ v, assign (.Attribute o f pos) X.env v = (do
      let ov ← holding [v] (eval o X.env)
      standAt pos.atName
      holding [v, ov] (setAttr ov f v)
      release [v, ov] []) := by intro _; rfl) : PG X (.Attribute o f pos) (gFld X.K to f) := by
  refine ⟨fun pins s σ H v u Q I r h => ?_⟩
  rw [ha]
  refine PySem.wpAny_bind (PySem.wpAny_holding (thn (ho.run pins s σ H _ I h) fun ov s1 ⟨x, H1, I1, r1, a, C, dx, fs, ex, ea, c, n, l, q⟩ => ?_))
  subst ex
  obtain rfl : ov = Value.ref a := r1
  exact PySem.wpAny_bind (PySem.wpAny_standAt (PySem.wpAny_bind (PySem.wpAny_holding (setattr_ok I1 ea c n l r fun s3 I3 => PySem.wpAny_release ⟨σ, _, I3, q⟩))))

/-! ### fields -/
theorem lk_eq {k : Str} {v : V} {r : List (Str × V)} : List.lookup k ((k, v) :: r) = some v := by
  simp [List.lookup]
theorem lk_ne {k j : Str} {v : V} {r : List (Str × V)} (h : (k == j) = false) : List.lookup k ((j, v) :: r) = List.lookup k r := by
  simp [List.lookup, h]
theorem pf_eq {k : Str} {v u : V} {r : List (Str × V)} : putF k v ((k, u) :: r) = (k, v) :: r := by
  show (if k = k then _ else _) = _
  rw [if_pos rfl]
theorem pf_ne {k j : Str} {v u : V} {r : List (Str × V)} (h : (k == j) = false) : putF k v ((j, u) :: r) = (j, u) :: putF k v r := by
  have h' : ¬ j = k := by
    intro e
    subst e
    simp at h
  show (if j = k then _ else _) = _
  rw [if_neg h']

/-! ### what stays -/
/-- all tracked things stand but those in F; tuples stand always -/
structure Stp (F : List Addr) (H H' : Hp) : Prop where
  keep : ∀ b o, H b = some o → b ∉ F → H' b = some o
  tup : ∀ b xs, H b = some (.tup xs) → H' b = some (.tup xs)
theorem Stp.refl {H : Hp} : Stp [] H H := ⟨fun _ _ h _ => h, fun _ _ h => h⟩
theorem Stp.of {H H' : Hp} (h : Same H H') : Stp [] H H' := ⟨fun b o e _ => h b o e, fun b xs e => h b _ e⟩
theorem Stp.same {H H' : Hp} (h : Stp [] H H') : Same H H' := fun b o e => h.keep b o e (by simp)
theorem Stp.trans {F G : List Addr} {H H1 H2 : Hp} (a : Stp F H H1) (b : Stp G H1 H2) : Stp (F ++ G) H H2 :=
  ⟨fun c o e n => b.keep c o (a.keep c o e fun z => n (List.mem_append_left _ z)) fun z => n (List.mem_append_right _ z), fun c xs e => b.tup c xs (a.tup c xs e)⟩
theorem Stp.sub {F G : List Addr} {H H' : Hp} (a : Stp F H H') (s : ∀ b ∈ F, b ∈ G) : Stp G H H' := ⟨fun c o e n => a.keep c o e fun z => n (s c z), a.tup⟩
/-- what H does not know may change -/
theorem Stp.subN {F G : List Addr} {H H' : Hp} (a : Stp F H H') (s : ∀ b ∈ F, b ∈ G ∨ H b = none) : Stp G H H' :=
  ⟨fun c o e n => a.keep c o e fun z => (s c z).elim n (fun q => by rw [e] at q; cases q), a.tup⟩
theorem Stp.new {H : Hp} {p : Addr} {o : HO} (h : H p = none) : Stp [] H (upd H p o) := .of fun b u e => by rw [upd_ne (ne_of_none e h)]; exact e
theorem Stp.put {H : Hp} {p : Addr} {o u : HO} (h : H p = some u) (n : ∀ xs, u ≠ .tup xs) : Stp [p] H (upd H p o) :=
  ⟨fun b x e q => by rw [upd_ne (by simpa using q)]; exact e, fun b xs e => by rw [upd_ne (ne_of e h (fun z => n xs z.symm))]; exact e⟩
theorem Stp.free {F : List Addr} {H H' : Hp} (a : Stp F H H') {p : Addr} (h : H' p = none) (n : p ∉ F) : H p = none := by
  cases q : H p with
  | none => rfl
  | some o =>
    rw [a.keep p o q n] at h
    cases h

/-! ### tuples that are read -/
def TupAt (K : PySem.W.Frag) (H : Hp) (a : Addr) (xs : List V) : Prop := H a = some (.tup xs) ∨ ∀ H' : Hp, SqT K H' a xs
theorem TupAt.sq {K : PySem.W.Frag} {H : Hp} {a : Addr} {xs : List V} (h : TupAt K H a xs) : SqT K H a xs := h.elim (fun q => .inl (.inl q)) fun q => q H
theorem TupAt.st {K : PySem.W.Frag} {F : List Addr} {H H' : Hp} {a : Addr} {xs : List V} (h : TupAt K H a xs) (s : Stp F H H') : TupAt K H' a xs := h.elim (fun q => .inl (s.tup _ _ q)) .inr

/-! ### fractions -/
/-- v is the fraction q, a tuple in lowest terms -/
def IsQ (K : PySem.W.Frag) (H : Hp) (v : V) (q : Rat) : Prop := ∃ a, v = .ref a ∧ TupAt K H a [.int q.num, .int (q.den : Int)]
theorem IsQ.st {K : PySem.W.Frag} {F : List Addr} {H H' : Hp} {v : V} {q : Rat} (h : IsQ K H v q) (s : Stp F H H') : IsQ K H' v q := by
  obtain ⟨a, e, t⟩ := h
  exact ⟨a, e, t.st s⟩
/-- so many bits -/
structure Rb (n : Nat) (q : Rat) : Prop where
  num : q.num.natAbs < 2 ^ n
  den : q.den < 2 ^ n
theorem Rb.mono {n m : Nat} {q : Rat} (h : Rb n q) (l : n ≤ m) : Rb m q := by
  have e : 2 ^ n ≤ 2 ^ m := Nat.pow_le_pow_right (by decide) l
  exact ⟨Nat.lt_of_lt_of_le h.num e, Nat.lt_of_lt_of_le h.den e⟩
theorem mk_num (t : Int) (b : Nat) (h : 0 < b) : (mkRat t b).num = t / ((Nat.gcd t.natAbs b : Nat) : Int) := by
  rw [Rat.num_mkRat, if_neg (by omega), Nat.gcd_comm]
theorem mk_den (t : Int) (b : Nat) (h : 0 < b) : (mkRat t b).den = b / Nat.gcd t.natAbs b := by
  rw [Rat.den_mkRat, if_neg (by omega), Nat.gcd_comm]
theorem Rb.of {n : Nat} {t : Int} {b : Nat} (h0 : 0 < b) (ht : t.natAbs < 2 ^ n) (hb : b < 2 ^ n) : Rb n (mkRat t b) := by
  refine ⟨?_, ?_⟩
  · rw [mk_num t b h0]
    refine Nat.lt_of_le_of_lt ?_ ht
    rw [Int.natAbs_ediv_of_dvd (Int.ofNat_dvd_left.mpr (Nat.gcd_dvd_left _ _))]
    exact Nat.div_le_self _ _
  · rw [mk_den t b h0]
    exact Nat.lt_of_le_of_lt (Nat.div_le_self _ _) hb
theorem add_mk (q r : Rat) : mkRat (q.num * r.den + r.num * q.den) (q.den * r.den) = q + r := by
  rw [Rat.add_def, Rat.normalize_eq_mkRat]
theorem mul_mk (q r : Rat) : mkRat (q.num * r.num) (q.den * r.den) = q * r := by
  rw [Rat.mul_def, Rat.normalize_eq_mkRat]
theorem sub_mk (q r : Rat) : mkRat (q.num * r.den - r.num * q.den) (q.den * r.den) = q - r := by
  rw [Rat.sub_eq_add_neg, ← add_mk, Rat.neg_num, Rat.neg_den, Int.neg_mul, ← Int.sub_eq_add_neg]
/-! ### names and texts -/
theorem ofString_inj {a b : String} : (Str.ofString a = Str.ofString b) = (a = b) := by
  refine propext ⟨fun h => ?_, fun h => by rw [h]⟩
  rw [Str.ofString_eq_toList, Str.ofString_eq_toList] at h
  have h1 : a.toList.map Char.toNat = b.toList.map Char.toNat := by simpa using h
  have h2 : a.toList = b.toList := by
    have inj : ∀ (x y : List Char), x.map Char.toNat = y.map Char.toNat → x = y := by
      intro x
      induction x with
      | nil => intro y e; cases y with
        | nil => rfl
        | cons c r => simp at e
      | cons c r ih => intro y e; cases y with
        | nil => simp at e
        | cons d t =>
          simp only [List.map_cons, List.cons.injEq] at e
          rw [ih t e.2]
          have : c = d := by
            apply Char.ext
            apply UInt32.toNat_inj.mp
            exact e.1
          rw [this]
    exact inj _ _ h1
  exact String.toList_inj.mp h2
theorem ofString_beq {a b : String} : (Str.ofString a == Str.ofString b) = decide (a = b) := by
  by_cases h : a = b
  · subst h
    simp
  · have : ¬ Str.ofString a = Str.ofString b := by
      rw [ofString_inj]
      exact h
    simp [this, h]
theorem lk_cons {k j : Str} {v : V} {r : List (Str × V)} : List.lookup k ((j, v) :: r) = if (k == j) = true then some v else List.lookup k r := by
  cases h : k == j
  · rw [lk_ne h]; simp
  · simp [List.lookup, h]
theorem pf_nil {k : Str} {v : V} : putF k v [] = [(k, v)] := rfl
theorem pf_cons {k j : Str} {v u : V} {r : List (Str × V)} : putF k v ((j, u) :: r) = if (k == j) = true then (k, v) :: r else (j, u) :: putF k v r := by
  cases h : k == j
  · rw [pf_ne h]; simp
  · have : k = j := by simpa using h
    subst this
    rw [pf_eq]
    simp
/-! ### what isinstance tells of ints -/
theorem isi_int {K : PySem.W.Frag} {H : Hp} {Q : VK} {n : Int} {T : String} {b : Bool} (h : kitB "int" T = some b) (q : Q (.bl b) H) : rIsi K [.int n, .ty T] H Q := ⟨_, _, _, _, _, rfl, .ty _, .base (.int _), kit_ty h, q⟩
theorem isi_inv {K : PySem.W.Frag} {H : Hp} {Q : VK} {n : Int} {T : String} {b : Bool} (hb : kitB "int" T = some b) : rIsi K [.int n, .ty T] H Q ↔ Q (.bl b) H := by
  refine ⟨fun h => ?_, isi_int hb⟩
  obtain ⟨x, c, t, u, b', e, hc, ht, hk, q⟩ := h
  simp only [List.cons.injEq, and_true] at e
  obtain ⟨rfl, rfl⟩ := e
  cases hc
  cases ht with
  | base h =>
    cases h
    have : PySem.W.kitOne K (.type "int") (.type T) = some b := kit_ty hb
    rw [this] at hk
    cases hk
    exact q
theorem isi_int_bool {K : PySem.W.Frag} {H : Hp} {Q : VK} {n : Int} : rIsi K [.int n, .ty "bool"] H Q ↔ Q (.bl false) H := isi_inv (by decide +kernel)
theorem isi_int_int {K : PySem.W.Frag} {H : Hp} {Q : VK} {n : Int} : rIsi K [.int n, .ty "int"] H Q ↔ Q (.bl true) H := isi_inv (by decide +kernel)
theorem isi_int_tuple {K : PySem.W.Frag} {H : Hp} {Q : VK} {n : Int} : rIsi K [.int n, .ty "tuple"] H Q ↔ Q (.bl false) H := isi_inv (by decide +kernel)
theorem isi_int_list {K : PySem.W.Frag} {H : Hp} {Q : VK} {n : Int} : rIsi K [.int n, .ty "list"] H Q ↔ Q (.bl false) H := isi_inv (by decide +kernel)
theorem isi_int_str {K : PySem.W.Frag} {H : Hp} {Q : VK} {n : Int} : rIsi K [.int n, .ty "str"] H Q ↔ Q (.bl false) H := isi_inv (by decide +kernel)
theorem scal_int {i j : Int} : scal (.int i) (.int j) = true := rfl
theorem scal_str {i j : Str} : scal (.str i) (.str j) = true := rfl
theorem scal_bl {i j : Bool} : scal (.bl i) (.bl j) = true := rfl
theorem sz_le {n : Nat} (h : n ≤ 100000) : n ≤ sizeLine := Nat.le_trans h (by decide)
theorem sz2 : (2 ≤ sizeLine) = True := eq_true (by decide)
theorem sz1 : (1 ≤ sizeLine) = True := eq_true (by decide)
theorem q0n : (0 : Rat).num = 0 := rfl
theorem q0d : ((0 : Rat).den : Int) = 1 := rfl

/-! ### a list comprehension whose element makes nothing -/
theorem wipe1 {σ : L2.St} {i : Nat} {x : Option V} : wipe ((wipe σ [i]).set i x) [i] = wipe σ [i] := by
  show ((σ.set i none).set i x).set i none = σ.set i none
  rw [List.set_set, List.set_set]
theorem stp_acc {H0 H : Hp} {D : Addr} {o : HO} (h : Stp [] H0 H) (hD : H0 D = none) (hn : ∀ xs, H D ≠ some (.tup xs)) : Stp [] H0 (upd H D o) := .of fun b u e => by
  rw [upd_ne (ne_of_none e hD)]
  exact h.same b u e
theorem lc_pure {K : PySem.W.Frag} {a : Addr} {xs : List V} {i : Nat} {te : TE} {σ : L2.St} {H0 H9 : Hp} {Q : VK} (f : V → V) (hx : SqL K H0 a xs) (hl : xs.length ≤ 100000)
    (he : ∀ x ∈ xs, ∀ (H : Hp) (Q' : VK), Stp [] H0 H → Q' (f x) H → te ((wipe σ [i]).set i (some x)) H Q')
    (k : ∀ D H', H0 D = none → Stp [] H0 H' → H' D = some (.lst (xs.map f)) → Q (.ref D) H') :
    tLc (fun _ _ R => R (Itl K a) H0) (gName i) tYes te [i] σ H9 Q := by
  intro D hD
  refine lc_list (K := K) (a := a) (xs := xs) (fun j H => Stp [] H0 H ∧ H D = some (.lst ((xs.take j).map f))) ⟨Stp.new hD, upd_same⟩ (fun j H _ h => ?_) (fun j x H hj h => ?_) (fun H h => ?_)
  · rcases hx with (q | ⟨o, q⟩) | q
    · exact .inl (.inl (h.1.same _ _ q))
    · exact .inl (.inr ⟨o, h.1.same _ _ q⟩)
    · exact .inr q
  · refine ⟨wipe1, ?_⟩
    simp only [tYes, reduceIte]
    have hm : x ∈ xs := List.mem_of_getElem? hj
    have hjl : j < xs.length := (List.getElem?_eq_some_iff.mp hj).1
    refine he x hm H _ h.1 ⟨(xs.take j).map f, h.2, ?_, ?_, ?_⟩
    · rw [List.length_map, List.length_take]
      exact Nat.lt_of_le_of_lt (Nat.min_le_right _ _) (Nat.lt_of_le_of_lt hl (by decide))
    · exact stp_acc h.1 hD (by rw [h.2]; intro ys z; cases z)
    · rw [upd_same, List.take_add_one, hj]
      simp
  · have h2 := h.2
    rw [List.take_length] at h2
    exact k D H hD h.1 h2

/-! ### o.f = e and o.f op= e, the heap behind told by what stands in it -/
def sFldA (K : PySem.W.Frag) (ta tv : TE) (f : Str) : TS := fun D σ H => tv σ H fun y H1 => ta σ H1 fun x H2 => ∃ a C dx fs, x = .ref a ∧ H2 a = some (.ins C dx fs) ∧ Cls K C ∧ NoAttr K C f ∧ fs.length < 1000 ∧
  ∀ H3, H3 a = some (.ins C dx (putF f y fs)) → Stp [a] H2 H3 → D.nx σ H3
def sFldAugA (K : PySem.W.Frag) (ta tv : TE) (rd : V → V → Hp → VK → Prop) (f : Str) : TS := fun D σ H => ta σ H fun x H1 => ∃ a C dx fs v, x = .ref a ∧ H1 a = some (.ins C dx fs) ∧ Cls K C ∧ NoAttr K C f ∧ fs.lookup f = some v ∧
  tv σ H1 fun y H2 => rd v y H2 fun z H3 => ∃ dx' fs', H3 a = some (.ins C dx' fs') ∧ fs'.length < 1000 ∧ ∀ H4, H4 a = some (.ins C dx' (putF f z fs')) → Stp [a] H3 H4 → D.nx σ H4
section
variable {X : Cx} {o value : Expr} {ta tv : TE} {f : Str} {pos pos' tpos : Pos}
theorem stp_ins {H : Hp} {a C dx : Addr} {fs gs : List (Str × V)} (h : H a = some (.ins C dx fs)) : Stp [a] H (upd H a (.ins C dx gs)) := Stp.put h fun xs z => nomatch z
theorem ps_fldA (ha : PE X o ta) (hv : PE X value tv) (hs : swapsWith value (some (.Attribute o f pos')) pos.line X.env = pure false := by rfl) : PS X (.Assign [.Attribute o f pos'] value pos) (sFldA X.K ta tv f) :=
  ⟨fun pins s σ H D I h => plainObj_wpAny_Assign_Attribute (thn (hv.run pins s σ H _ I h) fun u s1 ⟨y, H1, I1, ry, q⟩ => thn (ha.run pins s1 σ H1 _ I1 q) fun ov s2 ⟨x, H2, I2, rx, a, C, dx, fs, ex, ea, c, n, l, q2⟩ => by
    subst ex
    obtain rfl : ov = Value.ref a := rx
    exact setattr_ok I2 ea c n l ry fun s3 I3 => ⟨σ, _, I3, q2 _ upd_same (stp_ins ea)⟩) hs⟩
theorem ps_fldaugA {op : Operator} {rd : V → V → Hp → VK → Prop} (ha : PE X o ta) (hv : PE X value tv) (hop : InOp X op rd) : PS X (.AugAssign (.Attribute o f tpos) op value pos) (sFldAugA X.K ta tv rd f) :=
  ⟨fun pins s σ H D I h => wpAny_AugAssign_AttributeAny (thn (ha.run pins s σ H _ I h) fun ov s1 ⟨x, H1, I1, rx, a, C, dx, fs, v, ex, ea, c, n, l, q⟩ => by
    subst ex
    obtain rfl : ov = Value.ref a := rx
    refine getattr_ok I1 ea c n l fun u s2 I2 ru => thn (hv.run pins s2 σ H1 _ I2 q) fun u3 s3 ⟨y, H2, I3, ry, q3⟩ => thn (hop pins s3 σ H2 v y u u3 _ I3 ru ry q3) fun u4 s4 ⟨z, H3, I4, rz, dx', fs', ea', l', q4⟩ => ?_
    exact setattr_ok I4 ea' c n l' rz fun s5 I5 => ⟨σ, _, I5, q4 _ upd_same (stp_ins ea')⟩)⟩
end

theorem filt_take {α : Type} (p : α → Bool) (xs : List α) (j : Nat) {x : α} (h : xs[j]? = some x) : (xs.take (j + 1)).filter p = (xs.take j).filter p ++ if p x = true then [x] else [] := by
  rw [List.take_add_one, h, List.filter_append]
  congr 1
  show [x].filter p = _
  rw [List.filter_cons, List.filter_nil]
theorem lc_pureF {K : PySem.W.Frag} {a : Addr} {xs : List V} {i : Nat} {tt : TT} {te : TE} {σ : L2.St} {H0 H9 : Hp} {Q : VK} (p : V → Bool) (hx : SqL K H0 a xs) (hl : xs.length ≤ 100000)
    (ht : ∀ x ∈ xs, ∀ (H : Hp) (Q' : Bool → Hp → Prop), Stp [] H0 H → Q' (p x) H → tt ((wipe σ [i]).set i (some x)) H Q')
    (he : ∀ x ∈ xs, p x = true → ∀ (H : Hp) (Q' : VK), Stp [] H0 H → Q' x H → te ((wipe σ [i]).set i (some x)) H Q')
    (k : ∀ D H', H0 D = none → Stp [] H0 H' → H' D = some (.lst (xs.filter p)) → Q (.ref D) H') :
    tLc (fun _ _ R => R (Itl K a) H0) (gName i) tt te [i] σ H9 Q := by
  intro D hD
  refine lc_list (K := K) (a := a) (xs := xs) (fun j H => Stp [] H0 H ∧ H D = some (.lst ((xs.take j).filter p))) ⟨Stp.new hD, upd_same⟩ (fun j H _ h => ?_) (fun j x H hj h => ?_) (fun H h => ?_)
  · rcases hx with (q | ⟨o, q⟩) | q
    · exact .inl (.inl (h.1.same _ _ q))
    · exact .inl (.inr ⟨o, h.1.same _ _ q⟩)
    · exact .inr q
  · refine ⟨wipe1, ?_⟩
    have hm : x ∈ xs := List.mem_of_getElem? hj
    have ef := filt_take p xs j hj
    refine ht x hm H _ h.1 ?_
    cases e : p x with
    | false =>
      rw [if_neg (by simp)]
      rw [e] at ef
      refine ⟨h.1, ?_⟩
      rw [ef, h.2]
      simp
    | true =>
      rw [if_pos rfl]
      rw [e] at ef
      refine he x hm e H _ h.1 ⟨(xs.take j).filter p, h.2, ?_, ?_, ?_⟩
      · exact Nat.lt_of_le_of_lt (Nat.le_trans (List.length_filter_le _ _) (by rw [List.length_take]; exact Nat.le_trans (Nat.min_le_right _ _) hl)) (by decide)
      · exact stp_acc h.1 hD (by rw [h.2]; intro ys z; cases z)
      · rw [upd_same, ef]
        rfl
  · have h2 := h.2
    rw [List.take_length] at h2
    exact k D H hD h.1 h2

theorem lc_pureFv {K : PySem.W.Frag} {a : Addr} {xs : List V} {i j : Nat} {tt : TT} {te : TE} {σ : L2.St} {H0 : Hp} {Q : VK} (p : V → Bool) (hj : σ[j]? = some (some (.ref a))) (hx : SqL K H0 a xs) (hl : xs.length ≤ 100000)
    (ht : ∀ x ∈ xs, ∀ (H : Hp) (Q' : Bool → Hp → Prop), Stp [] H0 H → Q' (p x) H → tt ((wipe σ [i]).set i (some x)) H Q')
    (he : ∀ x ∈ xs, p x = true → ∀ (H : Hp) (Q' : VK), Stp [] H0 H → Q' x H → te ((wipe σ [i]).set i (some x)) H Q')
    (k : ∀ D H', H0 D = none → Stp [] H0 H' → H' D = some (.lst (xs.filter p)) → Q (.ref D) H') :
    tLc (iList K (tVar j)) (gName i) tt te [i] σ H0 Q := ⟨_, hj, a, rfl, ⟨_, hx⟩, lc_pureF (H9 := H0) (Q := Q) p hx hl ht he k⟩
theorem lc_pureV {K : PySem.W.Frag} {a : Addr} {xs : List V} {i j : Nat} {te : TE} {σ : L2.St} {H0 : Hp} {Q : VK} (f : V → V) (hj : σ[j]? = some (some (.ref a))) (hx : SqL K H0 a xs) (hl : xs.length ≤ 100000)
    (he : ∀ x ∈ xs, ∀ (H : Hp) (Q' : VK), Stp [] H0 H → Q' (f x) H → te ((wipe σ [i]).set i (some x)) H Q')
    (k : ∀ D H', H0 D = none → Stp [] H0 H' → H' D = some (.lst (xs.map f)) → Q (.ref D) H') :
    tLc (iList K (tVar j)) (gName i) tYes te [i] σ H0 Q := ⟨_, hj, a, rfl, ⟨_, hx⟩, lc_pure (H9 := H0) (Q := Q) f hx hl he k⟩
/-! the same over a tuple -/
theorem lc_pureT {K : PySem.W.Frag} {a : Addr} {xs : List V} {i : Nat} {te : TE} {σ : L2.St} {H0 H9 : Hp} {Q : VK} (f : V → V) (hx : H0 a = some (.tup xs)) (hl : xs.length ≤ 100000)
    (he : ∀ x ∈ xs, ∀ (H : Hp) (Q' : VK), Stp [] H0 H → Q' (f x) H → te ((wipe σ [i]).set i (some x)) H Q')
    (k : ∀ D H', H0 D = none → Stp [] H0 H' → H' D = some (.lst (xs.map f)) → Q (.ref D) H') :
    tLc (fun _ _ R => R (Itt K a) H0) (gName i) tYes te [i] σ H9 Q := by
  intro D hD
  refine lc_tup (K := K) (a := a) (xs := xs) (fun j H => Stp [] H0 H ∧ H D = some (.lst ((xs.take j).map f))) ⟨Stp.new hD, upd_same⟩ (fun j H _ h => .inl (.inl (h.1.same _ _ hx))) (fun j x H hj h => ?_) (fun H h => ?_)
  · refine ⟨wipe1, ?_⟩
    simp only [tYes, reduceIte]
    have hm : x ∈ xs := List.mem_of_getElem? hj
    refine he x hm H _ h.1 ⟨(xs.take j).map f, h.2, ?_, ?_, ?_⟩
    · rw [List.length_map, List.length_take]
      exact Nat.lt_of_le_of_lt (Nat.min_le_right _ _) (Nat.lt_of_le_of_lt hl (by decide))
    · exact stp_acc h.1 hD (by rw [h.2]; intro ys z; cases z)
    · rw [upd_same, List.take_add_one, hj]
      simp
  · have h2 := h.2
    rw [List.take_length] at h2
    exact k D H hD h.1 h2
theorem isi_tup {K : PySem.W.Frag} {H : Hp} {Q : VK} {t : Addr} {xs : List V} (h : H t = some (.tup xs)) (q : Q (.bl true) H) : rIsi K [.ref t, .ty "tuple"] H Q := ⟨_, _, _, _, _, rfl, .ty _, .base (.tup h), kit_ty (by decide +kernel), q⟩
theorem seq_st {K : PySem.W.Frag} {F : List Addr} {H H' : Hp} {a : Addr} {xs : List V} (h : SqL K H a xs) (s : Stp F H H') (n : a ∉ F) : SqL K H' a xs := by
  rcases h with (q | ⟨o, q⟩) | q
  · exact .inl (.inl (s.keep _ _ q n))
  · exact .inl (.inr ⟨o, s.keep _ _ q n⟩)
  · exact .inr q
end Mx

namespace Mx
open PySem L2 PyProof.Rows
/-! ### for i, x in enumerate(xs, start=z) -/
/-- the items of the list at a, each in a new pair with its number, from z on -/
def Itn (K : PySem.W.Frag) (a : Addr) (z : Int) : It where
  go := fun i H => ∃ (xs : List V) (x : V), SqL K H a xs ∧ xs[i]? = some x
  yld := fun i H v H' => ∃ T x, v = .ref T ∧ H T = none ∧ H' = upd H T (.tup [.int (z + (i : Nat)), x]) ∧ ∀ xs, SqL K H a xs → xs[i]? = some x
  stop := fun i H => ∃ xs : List V, SqL K H a xs ∧ xs.length = i
theorem turn_enumS {P : Program} {w : World} {K : PySem.W.Frag} {elts : List Expr} {kk : Nat} {tpos : Pos} (a e it : Addr) (z : Int) :
    Turn P w K (.Tuple elts kk tpos) (Itn K a z) [e, it] e (fun i h => (∃ old, IsEnum h e it (z + ((i : Nat) : Int)) old) ∧ h.IsListIter it a i ∧ e ≠ it ∧ a ≠ it ∧ a ≠ e) where
  mem := List.mem_cons_self
  obj := by
    rintro i h ⟨⟨old, he⟩, ⟨o, ho, hc, hd⟩, _⟩ b hb
    rcases List.mem_cons.mp hb with q | q
    · subst q
      exact ⟨_, he, fun v q => nomatch q⟩
    · rw [List.mem_singleton.mp q]
      exact ⟨o, ho, fun v q => by rw [hd] at q; cases q⟩
  keep := by
    rintro i h h' ⟨⟨old, he⟩, hi, hne⟩ k
    exact ⟨⟨old, k e List.mem_cons_self _ he⟩, hi.at fun o q => k it (List.mem_cons_of_mem _ List.mem_cons_self) o q, hne⟩
  item := by
    intro X hP hw hK hc i pins s σ H E I hf st hg
    subst hP hw hK
    obtain ⟨⟨old, he⟩, hit, hne, hai, hae⟩ := st
    obtain ⟨xs, x, hq, hx⟩ := hg
    obtain ⟨its, rv, p, hz⟩ := I.list hq
    obtain ⟨u, hu, ru⟩ := rv.get hx
    have hel : e < s.heap.objs.size := Heap.lt_size he
    have hil : it < s.heap.objs.size := by
      obtain ⟨_, q, _⟩ := hit
      exact Heap.lt_size q
    have hlt : i < its.length := (List.getElem?_eq_some_iff.mp hu).1
    have D := Draws.list (prog := X.prog) (w := X.w) (A := X.A.in1) (I.ok.hd hc) it a hai its.toArray
    refine wpAny_pyNext_enum_itemC D he ⟨hit, p.isList⟩ (by simpa using hlt) hne (by simp [hne, Ne.symm hae]) fun u' h' tk hu' ho hst hT hsz hk => ?_
    have hu2 : its[i]? = some u' := by simpa using hu'
    rw [hu] at hu2
    cases hu2
    refine ⟨_, rfl, wpAny_letOwnedTupleGo_enum (s := { s with heap := h', toks := tk + 1 }) ho fun h'' he' sb => ?_⟩
    have hT2 : h''.get? s.heap.objs.size = some { cls := .type "tuple", data := .seq #[.int (z + (i : Nat)) tk, u] } := (sb.2 _ (Nat.ne_of_gt hel)).trans hT
    have new : ObjOk X.prog X.w (upd H s.heap.objs.size (.tup [.int (z + (i : Nat)), x])) h'' s.heap.objs.size (.tup [.int (z + (i : Nat)), x]) :=
      ⟨by show 2 ≤ sizeLine; decide, [.int (z + (i : Nat)) tk, u], .cons ⟨_, rfl⟩ (.cons ru .nil), ⟨_, hT2, rfl, _, rfl⟩⟩
    have I1 : Inv X pins σ (upd H s.heap.objs.size (.tup [.int (z + (i : Nat)), x])) { s with heap := h'', toks := tk + 1 } :=
      I.turnedNew (ch := [e, it]) (fun b ob hb q => (sb.2 b (fun v => hb (by simp [v]))).trans (hk b ob (fun v => hb (by simp [v])) (fun v => hb (by simp [v])) q)) hf (Nat.le_refl _) new
    refine ⟨.ref s.heap.objs.size, _, I1, rfl, ⟨_, x, rfl, I.hok.fresh (Nat.le_refl _), rfl, fun ys hy => by rw [I.list_inj hy hq]; exact hx⟩, ⟨⟨u, ?_⟩, hst.1.at fun o q => (sb.2 it (Ne.symm hne)).trans q, hne, hai, hae⟩, fun b hb => ?_⟩
    · have e1 : z + ((i + 1 : Nat) : Int) = z + (i : Int) + 1 := by omega
      rw [e1]
      exact he'
    · have hb' : b < s.heap.objs.size := by
        rcases List.mem_cons.mp hb with q | q
        · rw [q]; exact hel
        · rw [List.mem_singleton.mp q]; exact hil
      rw [upd_ne (Nat.ne_of_lt hb')]
      exact (hf b hb).1
  done := by
    intro X hP hw hK hc i pins s σ H E I hf st hg
    subst hP hw hK
    obtain ⟨⟨old, he⟩, hit, hne, hai, hae⟩ := st
    obtain ⟨xs, hq, hx⟩ := hg
    obtain ⟨its, rv, p, hz⟩ := I.list hq
    obtain ⟨f0, f1, f2, f3, f4, f5⟩ := hf it (List.mem_cons_of_mem _ List.mem_cons_self)
    have hl := rv.length
    have D := Draws.list (prog := X.prog) (w := X.w) (A := X.A.in1) (I.ok.hd hc) it a hai its.toArray
    have hn : i = its.toArray.size := by
      show i = its.length
      omega
    exact wpAny_pyNext_enum_endD D he (by rw [← hn]; exact ⟨hit, p.isList⟩) fun h' eb => ⟨rfl, I.turned (t' := s.toks) (fun b o hb q => eb b o hb q) f0 f1 f3 f4 f5⟩
  self := by
    rintro A i s Q E ⟨⟨_, he⟩, _⟩ h
    exact wpAny_pyIter_enum he h
/-! ### the call with its start by name -/
theorem callWith_tyKw {M : Model} {A : Around} {E : Value → Shared → Prop} {s : Shared} {env : Env} {pos : Pos} {T : String} {e : Expr} {kw : Keyword} {Q : Value → Shared → Prop}
    (h : wpAny M A (spliced (backTo pos (starEach [e] env))) (fun vs s1 => wpAny M A (evalAll ((backToKw pos (keywordEach [kw] env)).map (·.2)))
      (fun kvs s2 => wpAny M A (call (.type T) vs (((backToKw pos (keywordEach [kw] env)).filterMap (·.1)).zip kvs)) Q E s2) E s1) E s)
    (he : backTo pos (starEach [e] env) = (false, eval e env) :: [])
    (hall : (backToKw pos (keywordEach [kw] env)).all (·.1.isSome) = true)
    (hkw : (backToKw pos (keywordEach [kw] env)).any (·.1.isNone) = false) :
    wpAny M A (callWith pos (.type T) [] (backTo pos (starEach [e] env)) (backToKw pos (keywordEach [kw] env))) Q E s := by
  rw [he] at h ⊢
  have h2 := evalArgs_kwB (f := .type T) (Q := fun a s1 => wpAny M A (call (.type T) ([] ++ a.pos) a.kw) Q E s1) hall h
  unfold callWith
  refine wpAny_bind (wpAny_holding (wpAny_mono h2 (fun a s1 h1 => wpAny_bind (wpAny_standAt ?_)) (fun _ _ x => x)))
  simp only [List.any_cons, List.any_nil, hkw, Bool.or_false]
  refine wpAny_bind (wpAny_pure ?_)
  exact wpAny_bind (wpAny_mono h1 (fun r s2 hr => wpAny_bind (wpAny_holding (wpAny_point (wpAny_pure hr)))) (fun _ _ x => x))
def iEnumS (K : PySem.W.Frag) (te tz : TE) : TI := fun σ H R => te σ H fun x H1 => tz σ H1 fun y H2 => ∃ a xs z, x = .ref a ∧ y = .int z ∧ SqL K H2 a xs ∧ -(2 ^ 63) ≤ z ∧ z < 2 ^ 63 ∧ R (Itn K a z) H2
theorem pi_enumS {X : Cx} {e ez : Expr} {te tz : TE} {p pos tpos kp : Pos} {elts : List Expr} {kk : Nat} (hg : Gl X "enumerate") (hm : X.mg "enumerate" = none) (he : PE X e te) (hz : PE X ez tz)
    (hs : starEach [e] X.env = [(false, eval e X.env)] := by rfl)
    (hc : eval (.Call (.Name "enumerate" p) [e] [⟨some "start", ez, kp⟩] pos) X.env = (do
      let f ← eval (.Name "enumerate" p) X.env
      callWith pos f [] (backTo pos (starEach [e] X.env)) (backToKw pos (keywordEach [⟨some "start", ez, kp⟩] X.env))) := by rfl) :
    PI X (.Tuple elts kk tpos) (.Call (.Name "enumerate" p) [e] [⟨some "start", ez, kp⟩] pos) (iEnumS X.K te tz) := by
  refine ⟨fun pins s σ H R I h => ?_⟩
  rw [hc]
  refine wpAny_bind (ld_blt I hg hm boot_enumerate ?_)
  refine callWith_tyKw ?_ (by rw [hs]; rfl) rfl rfl
  rw [hs]
  refine PySem.Calls.spliced_cons (thn (he.run pins s σ H _ I h) fun u s1 ⟨x, H1, I1, r1, q1⟩ => PySem.Calls.spliced_nil ?_)
  refine kws_cons (thn (hz.run pins s1 σ H1 _ I1 q1) fun zu s2 ⟨y, H2, I2, r2, q2⟩ => kws_nil ?_)
  obtain ⟨a, xs, z, ex, ey, hq, hz0, hz1, q⟩ := q2
  subst ex ey
  cases r1
  obtain ⟨t, rfl⟩ := r2
  obtain ⟨its, rv, p', hzz⟩ := I2.list hq
  show wpAny _ _ (call (.type "enumerate") [.ref a] [(Str.ofString "start", .int z t)]) _ _ s2
  refine enum_begins_start (begins_list a its.toArray) p'.isList hz0 hz1 fun h' hen hit hsz hk => wpAny_pyIter_enum hen ?_
  have I3 : Inv X pins σ H2 { s2 with heap := h' } := I2.kept (t' := s2.toks) hk
  have hal : a < s2.heap.objs.size := by
    obtain ⟨o, e, _⟩ := p'.isList
    exact Heap.lt_size e
  refine ⟨s2.heap.objs.size + 1, [s2.heap.objs.size + 1, s2.heap.objs.size], _, _, H2, rfl, I3, turn_enumS a (s2.heap.objs.size + 1) s2.heap.objs.size z,
    ⟨⟨.none, by simpa using hen⟩, ⟨_, hit, rfl, rfl⟩, Nat.succ_ne_self _, Nat.ne_of_lt hal, Nat.ne_of_lt (Nat.lt_succ_of_lt hal)⟩, fun b hb => ?_, q⟩
  have hle : s2.heap.objs.size ≤ b := by
    rcases List.mem_cons.mp hb with v | v
    · rw [v]; exact Nat.le_add_right _ _
    · rw [List.mem_singleton.mp v]; exact Nat.le_refl _
  exact I2.fpOk hle (I2.hok.fresh hle)
/-- such a loop, by what holds ahead of each turn -/
theorem for_enumS {K : PySem.W.Frag} {a : Addr} {z : Int} {xs : List V} {g : TG} {tb : TS} {D : Ends} {σ : L2.St} {H : Hp} (Pv : Nat → L2.St → Hp → Prop) (h0 : Pv 0 σ H) (hl : ∀ i σ H, i ≤ xs.length → Pv i σ H → SqL K H a xs)
    (hs : ∀ i x σ H T, xs[i]? = some x → Pv i σ H → H T = none → g (.ref T) σ (upd H T (.tup [.int (z + (i : Nat)), x])) fun σ2 H2 => tb { D with nx := Pv (i + 1), ct := Pv (i + 1), bk := D.nx } σ2 H2) (hd : ∀ σ H, Pv xs.length σ H → D.nx σ H) :
    ∃ W : Nat → Nat → L2.St → Hp → Prop, (∃ m, W 0 m σ H) ∧ ∀ i m σ H, W i m σ H →
      ((Itn K a z).stop i H ∧ D.nx σ H) ∨ ((Itn K a z).go i H ∧ ∃ N : L2.St → Hp → Prop, (∀ σ' H', N σ' H' → ∃ m', m' < m ∧ W (i + 1) m' σ' H') ∧ ∀ x H', (Itn K a z).yld i H x H' → g x σ H' fun σ2 H2 => tb { D with nx := N, ct := N, bk := D.nx } σ2 H2) := by
  refine ⟨fun i m σ H => m = xs.length - i ∧ i ≤ xs.length ∧ Pv i σ H, ⟨xs.length, by simp, Nat.zero_le _, h0⟩, ?_⟩
  rintro i m σ H ⟨rfl, hi, p⟩
  have q := hl i σ H hi p
  by_cases hlt : i < xs.length
  · refine .inr ⟨⟨xs, xs[i], q, by simp [hlt]⟩, Pv (i + 1), fun σ' H' p' => ⟨xs.length - (i + 1), by omega, rfl, hlt, p'⟩, ?_⟩
    rintro x H' ⟨T, y, rfl, hT, rfl, hy⟩
    exact hs i y σ H T (hy xs q) p hT
  · have e : i = xs.length := by omega
    subst e
    exact .inl ⟨⟨xs, q, rfl⟩, hd σ H p⟩
/-- the same from nothing on -/
theorem for_enum {K : PySem.W.Frag} {a : Addr} {xs : List V} {g : TG} {tb : TS} {D : Ends} {σ : L2.St} {H : Hp} (Pv : Nat → L2.St → Hp → Prop) (h0 : Pv 0 σ H) (hl : ∀ i σ H, i ≤ xs.length → Pv i σ H → SqL K H a xs)
    (hs : ∀ i x σ H T, xs[i]? = some x → Pv i σ H → H T = none → g (.ref T) σ (upd H T (.tup [.int (i : Nat), x])) fun σ2 H2 => tb { D with nx := Pv (i + 1), ct := Pv (i + 1), bk := D.nx } σ2 H2) (hd : ∀ σ H, Pv xs.length σ H → D.nx σ H) :
    ∃ W : Nat → Nat → L2.St → Hp → Prop, (∃ m, W 0 m σ H) ∧ ∀ i m σ H, W i m σ H →
      ((Ite K a).stop i H ∧ D.nx σ H) ∨ ((Ite K a).go i H ∧ ∃ N : L2.St → Hp → Prop, (∀ σ' H', N σ' H' → ∃ m', m' < m ∧ W (i + 1) m' σ' H') ∧ ∀ x H', (Ite K a).yld i H x H' → g x σ H' fun σ2 H2 => tb { D with nx := N, ct := N, bk := D.nx } σ2 H2) := by
  refine ⟨fun i m σ H => m = xs.length - i ∧ i ≤ xs.length ∧ Pv i σ H, ⟨xs.length, by simp, Nat.zero_le _, h0⟩, ?_⟩
  rintro i m σ H ⟨rfl, hi, p⟩
  have q := hl i σ H hi p
  by_cases hlt : i < xs.length
  · refine .inr ⟨⟨xs, xs[i], q, by simp [hlt]⟩, Pv (i + 1), fun σ' H' p' => ⟨xs.length - (i + 1), by omega, rfl, hlt, p'⟩, ?_⟩
    rintro x H' ⟨T, y, rfl, hT, rfl, hy⟩
    exact hs i y σ H T (hy xs q) p hT
  · have e : i = xs.length := by omega
    subst e
    exact .inl ⟨⟨xs, q, Nat.le_refl _⟩, hd σ H p⟩
end Mx

namespace Mx
open PySem L2
def top (i : Nat) : Stmt := PySem.Challenge.pw_mixserver_k09_arrivals_judged.main.body.getD i (.Pass ⟨0, 0, 0, 0⟩)
abbrev s_BadArrivals_init : Stmt := inClass (top 5) 0
abbrev s_is_whole : Stmt := top 8
abbrev s_check_pace : Stmt := top 9
abbrev s_check_wait : Stmt := top 10
abbrev s_check_many : Stmt := top 11
abbrev s_check_arrivals : Stmt := top 12
abbrev s_spot : Stmt := top 14
abbrev s_wanted : Stmt := top 15
abbrev s_judged : Stmt := top 17
abbrev s_law_taken : Stmt := top 19
abbrev s_law_alike : Stmt := top 20
abbrev s_law_pace : Stmt := top 21
abbrev s_law : Stmt := top 22
end Mx

namespace Mx
open PySem L2
set_option hygiene false in
local macro_rules | `(tactic| walk_at "rd") => `(tactic| try simp only [L2.start, List.map_cons, List.map_nil, List.length_cons, List.length_nil, Nat.reduceAdd, Nat.reduceSub, Nat.reduceLT, Nat.reduceLeDiff, List.replicate_succ, List.replicate_zero, List.append_nil, List.nil_append, List.cons_append, List.set_cons_zero, List.set_cons_succ, List.getElem?_cons_zero, List.getElem?_cons_succ,
  Option.some.injEq, List.cons.injEq, and_true, true_and, and_assoc, reduceCtorEq, L2.V.int.injEq, L2.V.ref.injEq, L2.V.bl.injEq, L2.V.str.injEq, L2.V.ty.injEq, L2.HO.ins.injEq, L2.HO.lst.injEq, L2.HO.tup.injEq, L2.HO.dK.injEq, exists_eq_left', exists_eq_left, exists_eq_right, exists_eq', exists_eq, exists_and_left, exists_and_right, reduceIte, Bool.false_eq_true, Bool.not_true, Bool.not_false,
  L2.tSeq, L2.tIfS, L2.tRet, L2.tRetN, L2.tNext, L2.tAsg, L2.gName, L2.tVar, L2.tC, L2.tCons, L2.tNil, L2.tCB, L2.tOp, L2.tUn, L2.tTup, L2.tLst, L2.tB, L2.tOr, L2.tAnd, L2.tNot, L2.tAndV, L2.tOrV, L2.tNotV, L2.tIf, L2.tTest, L2.tChain, L2.rI, L2.rI0, L2.rU, L2.tDrop, L2.tNever, L2.tCall, L2.tMeth, L2.tMake, L2.rGcd, L2.tFld, L2.sFld, L2.sFldAug, Mx.sFldA, Mx.sFldAugA, L2.rAdd, L2.rSub, L2.rEq, L2.rNe, L2.tDGet, L2.tDIn, L2.tDNotIn, L2.sDPut,
  Mx.isi_int_bool, Mx.isi_int_int, Mx.isi_int_tuple, Mx.isi_int_list, Mx.isi_int_str, Mx.scal_int, Mx.scal_str, Mx.scal_bl, Mx.ofString_inj, Mx.ofString_beq, Mx.lk_cons, Mx.pf_nil, Mx.pf_cons, Mx.sz1, Mx.sz2, List.lookup_nil, String.reduceEq, decide_true, decide_false, decide_eq_true_eq, Int.natAbs_natCast, L2.upd_same, L2.upd_upd, L2.cxOf])
set_option hygiene false in
local macro_rules | `(tactic| walk_at "rds") => `(tactic| try simp only [L2.start, List.map_cons, List.map_nil, List.length_cons, List.length_nil, Nat.reduceAdd, Nat.reduceSub, Nat.reduceLT, Nat.reduceLeDiff, List.replicate_succ, List.replicate_zero, List.append_nil, List.nil_append, List.cons_append, List.set_cons_zero, List.set_cons_succ, List.getElem?_cons_zero, List.getElem?_cons_succ,
  Option.some.injEq, List.cons.injEq, and_true, true_and, and_assoc, reduceCtorEq, L2.V.int.injEq, L2.V.ref.injEq, L2.V.bl.injEq, L2.V.str.injEq, L2.V.ty.injEq, L2.HO.ins.injEq, L2.HO.lst.injEq, L2.HO.tup.injEq, L2.HO.dK.injEq, exists_eq_left', exists_eq_left, exists_eq_right, exists_eq', exists_eq, exists_and_left, exists_and_right, reduceIte, Bool.false_eq_true, Bool.not_true, Bool.not_false,
  L2.tSeq, L2.tIfS, L2.tRet, L2.tRetN, L2.tNext, L2.tAsg, L2.gName, L2.tVar, L2.tC, L2.tCons, L2.tNil, L2.tCB, L2.tOp, L2.tUn, L2.tTup, L2.tLst, L2.tB, L2.tOr, L2.tAnd, L2.tNot, L2.tAndV, L2.tOrV, L2.tNotV, L2.tIf, L2.tTest, L2.tChain, L2.rI, L2.rI0, L2.rU, L2.tDrop, L2.tNever, L2.tCall, L2.tMeth, L2.tMake, L2.rGcd, L2.tFld, L2.sFld, L2.sFldAug, Mx.sFldA, Mx.sFldAugA, L2.rAdd, L2.rSub, L2.rEq, L2.rNe, L2.tDGet, L2.tDIn, L2.tDNotIn, L2.sDPut,
  Mx.isi_int_bool, Mx.isi_int_int, Mx.isi_int_tuple, Mx.isi_int_list, Mx.isi_int_str, Mx.scal_int, Mx.scal_str, Mx.scal_bl, Mx.ofString_inj, Mx.ofString_beq, Mx.lk_cons, Mx.pf_nil, Mx.pf_cons, Mx.sz1, Mx.sz2, List.lookup_nil, String.reduceEq, decide_true, decide_false, decide_eq_true_eq, Int.natAbs_natCast, L2.upd_same, L2.upd_upd, L2.cxOf, *])

/-- the built-in names that the program leaves as they are -/
structure Blt (mg : Str → Option Value) : Prop where
  isi : mg "isinstance" = none
  bool : mg "bool" = none
  int : mg "int" = none
  tuple : mg "tuple" = none
  len : mg "len" = none
  all : mg "all" = none
  any : mg "any" = none
  max : mg "max" = none
  divmod : mg "divmod" = none
  enumerate : mg "enumerate" = none
  sorted : mg "sorted" = none
  list : mg "list" = none
  range : mg "range" = none
  abs : mg "abs" = none
  str : mg "str" = none
section
variable {P : Program} {w : World} {K : PySem.W.Frag} {mg : Str → Option Value} {base : Heap}
/-! ### a name that is a built-in class, as a value -/
section
variable {X : Cx} {e1 e2 : Expr} {t1 t2 : TE} {p pos : Pos}
theorem b_isi {T : String} {x : Str} {q : Pos} (B : Blt X.mg) (h1 : PE X e1 t1) (h : X.mg x = none) (hb : bootBuiltins x = some (.type T)) (hx : x ≠ "__name__" := by decide) (hd : (x == ("__debug__" : Str)) = false := by decide) (hg : Gl X "isinstance" := by rfl) (hg2 : Gl X x := by rfl)
    (he : starEach [e1, .Name x q] X.env = (false, eval e1 X.env) :: starEach [.Name x q] X.env := by rfl)
    (he2 : starEach [.Name x q] X.env = (false, eval (.Name x q) X.env) :: starEach [] X.env := by rfl)
    (hpl : (backTo pos (starEach [.Name x q] X.env)).any (·.1) = false := by rfl) :
    PE X (.Call (.Name "isinstance" p) [e1, .Name x q] [] pos) (tCB (rIsi X.K) (tCons t1 (tCons (tC (.ty T)) tNil))) :=
  pe_callB call_isi hg B.isi PyProof.Rows.boot_isinstance (pa_cons h1 (pa_cons (pe_bltn (v := .ty T) hg2 h hb rfl hx hd) pa_nil he2) he) (he := he) (hpl := hpl)
end

/-! ### is_whole -/
def sp_is_whole : Sp := fun vs H Q _ => ∃ (n lo hi : Int), vs = [.int n, .int lo, .int hi] ∧ Q (.bl (decide (lo ≤ n ∧ n ≤ hi))) H
theorem sc_is_whole : FnScope ["number", "low", "high"] ["number", "low", "high"] (defScope s_is_whole) := ⟨rfl, rfl, rfl, by decide +kernel, rfl, by decide +kernel, by decide +kernel⟩
theorem ok_is_whole {f : Addr} {fd : FuncData} (F : Fun K "is_whole" "is_whole" s_is_whole f fd) (B : Blt mg) : FnOk P w K mg base CX0 1 f fd ["number", "low", "high"] sp_is_whole := by
  refine F.ok sc_is_whole (fun vs H Q E h => ?_) (fun cdv A outer s H vs Q E hr h => ?_)
  · obtain ⟨n, lo, hi, rfl, _⟩ := h
    rfl
  · obtain ⟨n, lo, hi, rfl, k⟩ := h
    refine ⟨_, pss_cons (ps_if (PW.pt (pw_or (pt_val (b_isi B (pv 0) B.bool PyProof.Rows.boot_bool)) (pw_or1 (pt_not (pt_val (b_isi B (pv 0) B.int PyProof.Rows.boot_int))))))
        (pss_one (ps_ret pe_bl)) pss_nil)
      (pss_one (ps_ret (pe_chain op_le op_le (pv 1) (pv 0) (pv 2)))), ?_⟩
    walk_at "rd"
    by_cases h1 : lo ≤ n
    · rw [if_pos h1]
      rw [show (decide (n ≤ hi)) = decide (lo ≤ n ∧ n ≤ hi) from by simp [h1]]
      exact k
    · rw [if_neg (by simpa using h1)]
      rw [show (false) = decide (lo ≤ n ∧ n ≤ hi) from by simp [h1]]
      exact k

/-! ### ratio, plus, times, minus -/
def frac (q : Rat) : List V := [.int q.num, .int (q.den : Int)]
def sp_ratio : Sp := fun vs H Q _ => ∃ (t b : Int), vs = [.int t, .int b] ∧ 0 < b ∧ b.natAbs < 2 ^ 9000 ∧
  ∀ p H', H p = none → Stp [] H H' → H' p = some (.tup (frac (mkRat t b.toNat))) → Q (.ref p) H'
/-- of two fractions a third: a new tuple -/
def sp_two (g : Rat → Rat → Rat) (K : PySem.W.Frag) : Sp := fun vs H Q _ => ∃ (a b : Addr) (q r : Rat) (n m : Nat), vs = [.ref a, .ref b] ∧ TupAt K H a (frac q) ∧ TupAt K H b (frac r) ∧ Rb n q ∧ Rb m r ∧ n + m < 9000 ∧ 0 < n ∧ 0 < m ∧
  ∀ p H', H p = none → Stp [] H H' → H' p = some (.tup (frac (g q r))) → Q (.ref p) H'
theorem at0 {x : V} {r : List V} : atI (x :: r) 0 = some x := by
  show ((if (0 : Int) ≤ 0 then (if (0 : Int) < ((r.length + 1 : Nat) : Int) then some (0 : Int).toNat else none) else _ : Option Nat)).bind _ = _
  rw [if_pos (by decide), if_pos (by omega)]
  rfl
theorem at1 {x y : V} {r : List V} : atI (x :: y :: r) 1 = some y := by
  show ((if (0 : Int) ≤ 1 then (if (1 : Int) < ((r.length + 1 + 1 : Nat) : Int) then some (1 : Int).toNat else none) else _ : Option Nat)).bind _ = _
  rw [if_pos (by decide), if_pos (by omega)]
  rfl
theorem ixT_0 {H : Hp} {a : Addr} {x : V} {r : List V} {Q : VK} (h : TupAt K H a (x :: r)) (q : Q x H) : rIxT K (.ref a) (.int 0) H Q := ⟨a, _, 0, x, rfl, rfl, h.sq, at0, q⟩
theorem ixT_1 {H : Hp} {a : Addr} {x y : V} {r : List V} {Q : VK} (h : TupAt K H a (x :: y :: r)) (q : Q y H) : rIxT K (.ref a) (.int 1) H Q := ⟨a, _, 1, y, rfl, rfl, h.sq, at1, q⟩
end
end Mx

namespace Mx
open PySem L2
set_option hygiene false in
local macro_rules | `(tactic| walk_at "rd") => `(tactic| try simp only [L2.start, List.map_cons, List.map_nil, List.length_cons, List.length_nil, Nat.reduceAdd, Nat.reduceSub, Nat.reduceLT, Nat.reduceLeDiff, List.replicate_succ, List.replicate_zero, List.append_nil, List.nil_append, List.cons_append, List.set_cons_zero, List.set_cons_succ, List.getElem?_cons_zero, List.getElem?_cons_succ,
  Option.some.injEq, List.cons.injEq, and_true, true_and, and_assoc, reduceCtorEq, L2.V.int.injEq, L2.V.ref.injEq, L2.V.bl.injEq, L2.V.str.injEq, L2.V.ty.injEq, L2.HO.ins.injEq, L2.HO.lst.injEq, L2.HO.tup.injEq, L2.HO.dK.injEq, exists_eq_left', exists_eq_left, exists_eq_right, exists_eq', exists_eq, exists_and_left, exists_and_right, reduceIte, Bool.false_eq_true, Bool.not_true, Bool.not_false,
  L2.tSeq, L2.tIfS, L2.tRet, L2.tRetN, L2.tNext, L2.tAsg, L2.gName, L2.tVar, L2.tC, L2.tCons, L2.tNil, L2.tCB, L2.tOp, L2.tUn, L2.tTup, L2.tLst, L2.tB, L2.tOr, L2.tAnd, L2.tNot, L2.tAndV, L2.tOrV, L2.tNotV, L2.tIf, L2.tTest, L2.tChain, L2.rI, L2.rI0, L2.rU, L2.tDrop, L2.tNever, L2.tCall, L2.tMeth, L2.tMake, L2.rGcd, L2.tFld, L2.sFld, L2.sFldAug, Mx.sFldA, Mx.sFldAugA, L2.rAdd, L2.rSub, L2.rEq, L2.rNe, L2.tDGet, L2.tDIn, L2.tDNotIn, L2.sDPut,
  Mx.isi_int_bool, Mx.isi_int_int, Mx.isi_int_tuple, Mx.isi_int_list, Mx.isi_int_str, Mx.scal_int, Mx.scal_str, Mx.scal_bl, Mx.ofString_inj, Mx.ofString_beq, Mx.lk_cons, Mx.pf_nil, Mx.pf_cons, Mx.sz1, Mx.sz2, List.lookup_nil, String.reduceEq, decide_true, decide_false, decide_eq_true_eq, Int.natAbs_natCast, L2.upd_same, L2.upd_upd, L2.cxOf, L2.gCons, L2.gNil])
set_option hygiene false in
local macro_rules | `(tactic| walk_at "rds") => `(tactic| try simp only [L2.start, List.map_cons, List.map_nil, List.length_cons, List.length_nil, Nat.reduceAdd, Nat.reduceSub, Nat.reduceLT, Nat.reduceLeDiff, List.replicate_succ, List.replicate_zero, List.append_nil, List.nil_append, List.cons_append, List.set_cons_zero, List.set_cons_succ, List.getElem?_cons_zero, List.getElem?_cons_succ,
  Option.some.injEq, List.cons.injEq, and_true, true_and, and_assoc, reduceCtorEq, L2.V.int.injEq, L2.V.ref.injEq, L2.V.bl.injEq, L2.V.str.injEq, L2.V.ty.injEq, L2.HO.ins.injEq, L2.HO.lst.injEq, L2.HO.tup.injEq, L2.HO.dK.injEq, exists_eq_left', exists_eq_left, exists_eq_right, exists_eq', exists_eq, exists_and_left, exists_and_right, reduceIte, Bool.false_eq_true, Bool.not_true, Bool.not_false,
  L2.tSeq, L2.tIfS, L2.tRet, L2.tRetN, L2.tNext, L2.tAsg, L2.gName, L2.tVar, L2.tC, L2.tCons, L2.tNil, L2.tCB, L2.tOp, L2.tUn, L2.tTup, L2.tLst, L2.tB, L2.tOr, L2.tAnd, L2.tNot, L2.tAndV, L2.tOrV, L2.tNotV, L2.tIf, L2.tTest, L2.tChain, L2.rI, L2.rI0, L2.rU, L2.tDrop, L2.tNever, L2.tCall, L2.tMeth, L2.tMake, L2.rGcd, L2.tFld, L2.sFld, L2.sFldAug, Mx.sFldA, Mx.sFldAugA, L2.rAdd, L2.rSub, L2.rEq, L2.rNe, L2.tDGet, L2.tDIn, L2.tDNotIn, L2.sDPut,
  Mx.isi_int_bool, Mx.isi_int_int, Mx.isi_int_tuple, Mx.isi_int_list, Mx.isi_int_str, Mx.scal_int, Mx.scal_str, Mx.scal_bl, Mx.ofString_inj, Mx.ofString_beq, Mx.lk_cons, Mx.pf_nil, Mx.pf_cons, Mx.sz1, Mx.sz2, List.lookup_nil, String.reduceEq, decide_true, decide_false, decide_eq_true_eq, Int.natAbs_natCast, L2.upd_same, L2.upd_upd, L2.cxOf, L2.gCons, L2.gNil, *])

section
variable {P : Program} {w : World} {K : PySem.W.Frag} {mg : Str → Option Value} {base : Heap}
def lowN (n pn pb : Int) : Int := n * pn / pb
def restN (n pn pb : Int) : Int := n * pn % pb
def wantN (n pn pb : Int) : List Int := if restN n pn pb = 0 then [lowN n pn pb] else [lowN n pn pb, lowN n pn pb + 1]
def sp_spot : Sp := fun vs H Q _ => ∃ (tp : Addr) (pn pb n : Int), vs = [.ref tp, .int n] ∧ H tp = some (.tup [.int pn, .int pb]) ∧ (1 ≤ pn ∧ pn ≤ 8) ∧ (1 ≤ pb ∧ pb ≤ 8) ∧ ∀ p H', H p = none → Stp [] H H' → H' p = some (.tup [.int (lowN n pn pb), .int (restN n pn pb)]) → Q (.ref p) H'
theorem sc_spot : FnScope ["pace", "passed", "numbers", "beats"] ["pace", "passed"] (defScope s_spot) := ⟨rfl, rfl, rfl, by decide +kernel, rfl, by decide +kernel, by decide +kernel⟩
theorem ok_spot {f : Addr} {fd : FuncData} (F : Fun K "spot" "spot" s_spot f fd) (B : Blt mg) : FnOk P w K mg base CX0 1 f fd ["pace", "passed"] sp_spot := by
  refine F.ok sc_spot (fun vs H Q E h => ?_) (fun cdv A outer s H vs Q E hr h => ?_)
  · obtain ⟨tp, pn, pb, n, rfl, _⟩ := h
    rfl
  · obtain ⟨tp, pn, pb, n, rfl, htp, hpn, hpb, k⟩ := h
    refine ⟨_, pss_cons (ps_asg (pv 0) (pg_tup rfl (pgs_cons (pg_name (i := 2) sc_spot.nd rfl (.inl rfl)) (pgs_cons (pg_name (i := 3) sc_spot.nd rfl (.inl rfl)) pgs_nil))))
      (pss_one (ps_ret (pe_callB call_divmod (by rfl) B.divmod (by decide +kernel) (pa_cons (pe_op op_mul (pv 1) (pv 2)) (pa_cons (pv 3) pa_nil))))), ?_⟩
    refine ⟨_, rfl, tp, _, rfl, .inl (.inl htp), rfl, ?_⟩
    walk_at "rd"
    exact ⟨.inr ⟨by omega, by omega⟩, ⟨by omega, by omega⟩, fun p hp => k p _ hp (Stp.new hp) upd_same⟩
def sp_wanted : Sp := fun vs H Q _ => ∃ (tp : Addr) (pn pb n : Int), vs = [.ref tp, .int n] ∧ H tp = some (.tup [.int pn, .int pb]) ∧ (1 ≤ pn ∧ pn ≤ 8) ∧ (1 ≤ pb ∧ pb ≤ 8) ∧ ∀ p H', H p = none → Stp [] H H' → H' p = some (.lst ((wantN n pn pb).map V.int)) → Q (.ref p) H'
theorem sc_wanted : FnScope ["pace", "passed", "low", "rest"] ["pace", "passed"] (defScope s_wanted) := ⟨rfl, rfl, rfl, by decide +kernel, rfl, by decide +kernel, by decide +kernel⟩
theorem ok_wanted {f : Addr} {fd : FuncData} (F : Fun K "wanted" "wanted" s_wanted f fd) (G : OwnF P w K mg base "spot" 1 ["pace", "passed"] sp_spot) : FnOk P w K mg base CX0 2 f fd ["pace", "passed"] sp_wanted := by
  refine F.ok sc_wanted (fun vs H Q E h => ?_) (fun cdv A outer s H vs Q E hr h => ?_)
  · obtain ⟨tp, pn, pb, n, rfl, _⟩ := h
    rfl
  · obtain ⟨tp, pn, pb, n, rfl, htp, hpn, hpb, k⟩ := h
    refine ⟨_, pss_cons (ps_asg (p_call G hr (pa_cons (pv 0) (pa_cons (pv 1) pa_nil))) (pg_tup rfl (pgs_cons (pg_name (i := 2) sc_wanted.nd rfl (.inl rfl)) (pgs_cons (pg_name (i := 3) sc_wanted.nd rfl (.inl rfl)) pgs_nil))))
      (pss_one (ps_ret (pe_ifExp (pt_cmpR op_eq (pv 3) pe_int (nomark _)) (pe_lst (pa_cons (pv 2) pa_nil)) (pe_lst (pa_cons (pv 2) (pa_cons (pe_op op_add (pv 2) pe_int) pa_nil)))))), ?_⟩
    refine ⟨_, rfl, _, rfl, tp, pn, pb, n, rfl, htp, hpn, hpb, fun p H1 hp hs hl => ⟨p, _, rfl, .inl (.inl hl), rfl, ?_⟩⟩
    walk_at "rd"
    unfold wantN at k
    by_cases e : restN n pn pb = 0
    · rw [if_pos e] at k ⊢
      intro q hq
      exact k q _ (hs.free hq (by simp)) (hs.trans (Stp.new hq)) upd_same
    · rw [if_neg e] at k ⊢
      intro q hq
      exact k q _ (hs.free hq (by simp)) (hs.trans (Stp.new hq)) upd_same
end
end Mx

namespace Mx
open PySem L2
set_option hygiene false in
local macro_rules | `(tactic| walk_at "rd") => `(tactic| try simp only [L2.start, List.map_cons, List.map_nil, List.length_cons, List.length_nil, Nat.reduceAdd, Nat.reduceSub, Nat.reduceLT, Nat.reduceLeDiff, List.replicate_succ, List.replicate_zero, List.append_nil, List.nil_append, List.cons_append, List.set_cons_zero, List.set_cons_succ, List.getElem?_cons_zero, List.getElem?_cons_succ,
  Option.some.injEq, List.cons.injEq, and_true, true_and, and_assoc, reduceCtorEq, L2.V.int.injEq, L2.V.ref.injEq, L2.V.bl.injEq, L2.V.str.injEq, L2.V.ty.injEq, L2.HO.ins.injEq, L2.HO.lst.injEq, L2.HO.tup.injEq, L2.HO.dK.injEq, exists_eq_left', exists_eq_left, exists_eq_right, exists_eq', exists_eq, exists_and_left, exists_and_right, reduceIte, Bool.false_eq_true, Bool.not_true, Bool.not_false,
  L2.tSeq, L2.tIfS, L2.tRet, L2.tRetN, L2.tNext, L2.tAsg, L2.gName, L2.tVar, L2.tC, L2.tCons, L2.tNil, L2.tCB, L2.tOp, L2.tUn, L2.tTup, L2.tLst, L2.tB, L2.tOr, L2.tAnd, L2.tNot, L2.tAndV, L2.tOrV, L2.tNotV, L2.tIf, L2.tTest, L2.tChain, L2.rI, L2.rI0, L2.rU, L2.tDrop, L2.tNever, L2.tCall, L2.tMeth, L2.tMake, L2.rGcd, L2.tFld, L2.sFld, L2.sFldAug, Mx.sFldA, Mx.sFldAugA, L2.rAdd, L2.rSub, L2.rEq, L2.rNe, L2.tDGet, L2.tDIn, L2.tDNotIn, L2.sDPut,
  Mx.isi_int_bool, Mx.isi_int_int, Mx.isi_int_tuple, Mx.isi_int_list, Mx.isi_int_str, Mx.scal_int, Mx.scal_str, Mx.scal_bl, Mx.ofString_inj, Mx.ofString_beq, Mx.lk_cons, Mx.pf_nil, Mx.pf_cons, Mx.sz1, Mx.sz2, List.lookup_nil, String.reduceEq, decide_true, decide_false, decide_eq_true_eq, Int.natAbs_natCast, L2.upd_same, L2.upd_upd, L2.cxOf])
set_option hygiene false in
local macro_rules | `(tactic| walk_at "rds") => `(tactic| try simp only [L2.start, List.map_cons, List.map_nil, List.length_cons, List.length_nil, Nat.reduceAdd, Nat.reduceSub, Nat.reduceLT, Nat.reduceLeDiff, List.replicate_succ, List.replicate_zero, List.append_nil, List.nil_append, List.cons_append, List.set_cons_zero, List.set_cons_succ, List.getElem?_cons_zero, List.getElem?_cons_succ,
  Option.some.injEq, List.cons.injEq, and_true, true_and, and_assoc, reduceCtorEq, L2.V.int.injEq, L2.V.ref.injEq, L2.V.bl.injEq, L2.V.str.injEq, L2.V.ty.injEq, L2.HO.ins.injEq, L2.HO.lst.injEq, L2.HO.tup.injEq, L2.HO.dK.injEq, exists_eq_left', exists_eq_left, exists_eq_right, exists_eq', exists_eq, exists_and_left, exists_and_right, reduceIte, Bool.false_eq_true, Bool.not_true, Bool.not_false,
  L2.tSeq, L2.tIfS, L2.tRet, L2.tRetN, L2.tNext, L2.tAsg, L2.gName, L2.tVar, L2.tC, L2.tCons, L2.tNil, L2.tCB, L2.tOp, L2.tUn, L2.tTup, L2.tLst, L2.tB, L2.tOr, L2.tAnd, L2.tNot, L2.tAndV, L2.tOrV, L2.tNotV, L2.tIf, L2.tTest, L2.tChain, L2.rI, L2.rI0, L2.rU, L2.tDrop, L2.tNever, L2.tCall, L2.tMeth, L2.tMake, L2.rGcd, L2.tFld, L2.sFld, L2.sFldAug, Mx.sFldA, Mx.sFldAugA, L2.rAdd, L2.rSub, L2.rEq, L2.rNe, L2.tDGet, L2.tDIn, L2.tDNotIn, L2.sDPut,
  Mx.isi_int_bool, Mx.isi_int_int, Mx.isi_int_tuple, Mx.isi_int_list, Mx.isi_int_str, Mx.scal_int, Mx.scal_str, Mx.scal_bl, Mx.ofString_inj, Mx.ofString_beq, Mx.lk_cons, Mx.pf_nil, Mx.pf_cons, Mx.sz1, Mx.sz2, List.lookup_nil, String.reduceEq, decide_true, decide_false, decide_eq_true_eq, Int.natAbs_natCast, L2.upd_same, L2.upd_upd, L2.cxOf, *])

section
variable {P : Program} {w : World} {K : PySem.W.Frag} {mg : Str → Option Value} {base : Heap}
/-! what lets whole numbers within bounds by -/
def sp_in (lo hi : Int) : Sp := fun vs H Q _ => ∃ n : Int, vs = [.int n] ∧ lo ≤ n ∧ n ≤ hi ∧ Q .non H
theorem sc_check_wait : FnScope ["wait"] ["wait"] (defScope s_check_wait) := ⟨rfl, rfl, rfl, by decide +kernel, rfl, by decide +kernel, by decide +kernel⟩
theorem ok_check_wait {f : Addr} {fd : FuncData} (F : Fun K "check_wait" "check_wait" s_check_wait f fd) (G : OwnF P w K mg base "is_whole" 1 ["number", "low", "high"] sp_is_whole) : FnOk P w K mg base CX0 2 f fd ["wait"] (sp_in 0 64) := by
  refine F.ok sc_check_wait (fun vs H Q E h => ?_) (fun cdv A outer s H vs Q E hr h => ?_)
  · obtain ⟨n, rfl, _⟩ := h
    rfl
  · obtain ⟨n, rfl, h1, h2, k⟩ := h
    refine ⟨_, pss_one (ps_if (pt_not (pt_val (p_call G hr (pa_cons (pv 0) (pa_cons pe_int (pa_cons pe_int pa_nil)))))) (pss_one ps_never) pss_nil), ?_⟩
    refine ⟨_, rfl, n, 0, 64, rfl, _, rfl, ?_⟩
    rw [decide_eq_true (show 0 ≤ n ∧ n ≤ 64 from ⟨h1, h2⟩)]
    exact iteF k
def sp_check_pace : Sp := fun vs H Q _ => ∃ (t : Addr) (pn pb : Int), vs = [.ref t] ∧ H t = some (.tup [.int pn, .int pb]) ∧ (1 ≤ pn ∧ pn ≤ 8) ∧ (1 ≤ pb ∧ pb ≤ 8) ∧ ∀ H', Stp [] H H' → Q .non H'
theorem sc_check_pace : FnScope ["pace", "number"] ["pace"] (defScope s_check_pace) := ⟨rfl, rfl, rfl, by decide +kernel, rfl, by decide +kernel, by decide +kernel⟩
theorem ok_check_pace {f : Addr} {fd : FuncData} (F : Fun K "check_pace" "check_pace" s_check_pace f fd) (B : Blt mg) (G : OwnF P w K mg base "is_whole" 1 ["number", "low", "high"] sp_is_whole) : FnOk P w K mg base CX0 2 f fd ["pace"] sp_check_pace := by
  refine F.ok sc_check_pace (fun vs H Q E h => ?_) (fun cdv A outer s H vs Q E hr h => ?_)
  · obtain ⟨t, pn, pb, rfl, _⟩ := h
    rfl
  · obtain ⟨t, pn, pb, rfl, ht, h1, h2, k⟩ := h
    refine ⟨_, pss_cons (ps_if (PW.pt (pw_or (pt_not (pt_val (b_isi B (pv 0) B.tuple PyProof.Rows.boot_tuple))) (pw_or1 (pt_cmpR op_ne (pe_callB call_len_seq (by rfl) B.len PySem.boot_len (pa_cons (pv 0) pa_nil)) pe_int (nomark _))))) (pss_one ps_never) pss_nil)
      (pss_one (ps_if (pt_not (pt_val (pe_callB (cr_all rfl) (by rfl) B.all PyProof.Rows.boot_all (pa_cons (pe_lc (own := [("number", 1)]) (te := tCall sp_is_whole [] E0 (tCons (tVar 1) (tCons (tC (.int 1)) (tCons (tC (.int 8)) tNil)))) rfl sc_check_pace.nd (pi_tup (pv 0)) (blkOk_by (N := ["pace", "number"]) (sc := defScope s_check_pace) (by decide +kernel))
        (fun _ _ _ _ _ => pg_name (i := 1) sc_check_pace.nd rfl (.inl rfl)) (fun _ _ _ _ _ => pts_nil) (fun _ _ _ _ _ => p_call G hr (pa_cons (pv 1) (pa_cons pe_int (pa_cons pe_int pa_nil))))) pa_nil)))) (pss_one ps_never) pss_nil)), ?_⟩
    walk_at "rd"
    refine isi_tup ht ?_
    walk_at "rd"
    refine ⟨_, .inr (.inl (.inl ht)), ?_⟩
    walk_at "rd"
    refine ⟨_, rfl, t, rfl, ⟨_, .inl (.inl ht)⟩, lc_pureT (K := K) (a := t) (H9 := H) (i := 1) (te := tCall sp_is_whole [] E0 (tCons (tVar 1) (tCons (tC (.int 1)) (tCons (tC (.int 8)) tNil)))) (σ := [some (.ref t), none]) (Q := fun x H1 => rAll K [x] H1 _) (fun _ => .bl true) ht (by show 2 ≤ 100000; decide) (fun x hx H1 Q' hs q => ?_) (fun D H1 hD hs1 hl1 => ?_)⟩
    · refine ⟨_, rfl, ?_⟩
      rcases List.mem_cons.mp hx with e | hx
      · subst e
        refine ⟨pn, 1, 8, rfl, ?_⟩
        rw [decide_eq_true h1]
        exact q
      · rw [List.mem_singleton.mp hx]
        refine ⟨pb, 1, 8, rfl, ?_⟩
        rw [decide_eq_true h2]
        exact q
    · refine ⟨D, [true, true], rfl, .inl (.inl hl1), _, rfl, iteF ?_⟩
      exact k H1 hs1

theorem sc_check_many : FnScope ["many"] ["many"] (defScope s_check_many) := ⟨rfl, rfl, rfl, by decide +kernel, rfl, by decide +kernel, by decide +kernel⟩
theorem ok_check_many {f : Addr} {fd : FuncData} (F : Fun K "check_many" "check_many" s_check_many f fd) (G : OwnF P w K mg base "is_whole" 1 ["number", "low", "high"] sp_is_whole) : FnOk P w K mg base CX0 2 f fd ["many"] (sp_in 1 32) := by
  refine F.ok sc_check_many (fun vs H Q E h => ?_) (fun cdv A outer s H vs Q E hr h => ?_)
  · obtain ⟨n, rfl, _⟩ := h
    rfl
  · obtain ⟨n, rfl, h1, h2, k⟩ := h
    refine ⟨_, pss_one (ps_if (pt_not (pt_val (p_call G hr (pa_cons (pv 0) (pa_cons pe_int (pa_cons pe_int pa_nil)))))) (pss_one ps_never) pss_nil), ?_⟩
    refine ⟨_, rfl, n, 1, 32, rfl, _, rfl, ?_⟩
    rw [decide_eq_true (show 1 ≤ n ∧ n ≤ 32 from ⟨h1, h2⟩)]
    exact iteF k
end
end Mx

namespace Mx
open PySem L2
/-! ### the draws -/
/-- the row of draws at r: the script, where one is, what is mixed -/
def RowAt (K : PySem.W.Frag) (H : Hp) (r sc : Addr) (ns : List Int) : Prop := ∃ pos mix : Int, 0 ≤ pos ∧ 0 ≤ mix ∧ mix < 2147483647 ∧ H r = some (.lst [.ref sc, .int pos, .int mix]) ∧ SqL K H sc (ns.map V.int) ∧ (sc ≠ r ∨ ∀ H' : Hp, SqL K H' sc (ns.map V.int))
theorem seq_or {K : PySem.W.Frag} {H H' : Hp} {a r : Addr} {xs : List V} (h : SqL K H a xs) (s : Stp [r] H H') (n : a ≠ r ∨ ∀ H' : Hp, SqL K H' a xs) : SqL K H' a xs := n.elim (fun q => seq_st h s (by simpa using q)) fun q => q H'
theorem RowAt.st {K : PySem.W.Frag} {F : List Addr} {H H' : Hp} {r sc : Addr} {ns : List Int} (h : RowAt K H r sc ns) (s : Stp F H H') (h1 : r ∉ F) (h2 : sc ∉ F) : RowAt K H' r sc ns := by
  obtain ⟨pos, mix, p0, m0, m1, hr, hs, hn⟩ := h
  exact ⟨pos, mix, p0, m0, m1, s.keep _ _ hr h1, seq_st hs s h2, hn⟩
theorem RowAt.st0 {K : PySem.W.Frag} {H H' : Hp} {r sc : Addr} {ns : List Int} (h : RowAt K H r sc ns) (s : Stp [] H H') : RowAt K H' r sc ns := h.st s (by simp) (by simp)
def sp_taken (K : PySem.W.Frag) : Sp := fun vs H Q _ => ∃ (r sc : Addr) (ns : List Int) (many : Int), vs = [.ref r, .int many] ∧ RowAt K H r sc ns ∧ 1 ≤ many ∧ ∀ v H', 0 ≤ v → v < many → RowAt K H' r sc ns → Stp [r] H H' → Q (.int v) H'
theorem at3_0 {x y z : V} : atI [x, y, z] 0 = some x := rfl
theorem at3_1 {x y z : V} : atI [x, y, z] 1 = some y := rfl
theorem at3_2 {x y z : V} : atI [x, y, z] 2 = some z := rfl
theorem ixL {K : PySem.W.Frag} {H : Hp} {p : Addr} {xs : List V} {i : Int} {x : V} {Q : VK} (h : SqL K H p xs) (ha : atI xs i = some x) (q : Q x H) : rIxL K (.ref p) (.int i) H Q := ⟨p, xs, i, x, rfl, rfl, h, ha, q⟩
theorem setL {H : Hp} {p : Addr} {xs : List V} {i : Int} {j : Nat} {v : V} {Q : Hp → Prop} (h : H p = some (.lst xs)) (hi : ixN xs.length i = some j) (q : ∀ H', H' p = some (.lst (xs.set j v)) → Stp [p] H H' → Q H') : rSetL (.ref p) (.int i) v H Q :=
  ⟨p, xs, i, j, rfl, rfl, h, hi, q _ upd_same (Stp.put h fun xs z => nomatch z)⟩
theorem at_nat {ns : List Int} {i : Int} (h0 : 0 ≤ i) (h1 : i < ns.length) : ∃ n, n ∈ ns ∧ atI (ns.map V.int) i = some (.int n) := by
  have hl : i.toNat < ns.length := by omega
  refine ⟨ns[i.toNat], List.getElem_mem hl, ?_⟩
  unfold atI ixN
  rw [if_pos h0, List.length_map, if_pos h1]
  show (ns.map V.int)[i.toNat]? = _
  rw [List.getElem?_map, List.getElem?_eq_getElem hl]
  rfl
set_option hygiene false in
local macro_rules | `(tactic| walk_at "rd") => `(tactic| try simp only [L2.start, List.map_cons, List.map_nil, List.length_cons, List.length_nil, Nat.reduceAdd, Nat.reduceSub, Nat.reduceLT, Nat.reduceLeDiff, List.replicate_succ, List.replicate_zero, List.append_nil, List.nil_append, List.cons_append, List.set_cons_zero, List.set_cons_succ, List.getElem?_cons_zero, List.getElem?_cons_succ,
  Option.some.injEq, List.cons.injEq, and_true, true_and, and_assoc, reduceCtorEq, L2.V.int.injEq, L2.V.ref.injEq, L2.V.bl.injEq, L2.V.str.injEq, L2.V.ty.injEq, L2.HO.ins.injEq, L2.HO.lst.injEq, L2.HO.tup.injEq, L2.HO.dK.injEq, exists_eq_left', exists_eq_left, exists_eq_right, exists_eq', exists_eq, exists_and_left, exists_and_right, reduceIte, Bool.false_eq_true, Bool.not_true, Bool.not_false,
  L2.tSeq, L2.tIfS, L2.tRet, L2.tRetN, L2.tNext, L2.tAsg, L2.gName, L2.tVar, L2.tC, L2.tCons, L2.tNil, L2.tCB, L2.tOp, L2.tUn, L2.tTup, L2.tLst, L2.tB, L2.tOr, L2.tAnd, L2.tNot, L2.tAndV, L2.tOrV, L2.tNotV, L2.tIf, L2.tTest, L2.tChain, L2.rI, L2.rI0, L2.rU, L2.tDrop, L2.tNever, L2.tCall, L2.tMeth, L2.tMake, L2.rGcd, L2.tFld, L2.sFld, L2.sFldAug, Mx.sFldA, Mx.sFldAugA, L2.rAdd, L2.rSub, L2.rEq, L2.rNe, L2.tDGet, L2.tDIn, L2.tDNotIn, L2.sDPut,
  Mx.isi_int_bool, Mx.isi_int_int, Mx.isi_int_tuple, Mx.isi_int_list, Mx.isi_int_str, Mx.scal_int, Mx.scal_str, Mx.scal_bl, Mx.ofString_inj, Mx.ofString_beq, Mx.lk_cons, Mx.pf_nil, Mx.pf_cons, Mx.sz1, Mx.sz2, List.lookup_nil, String.reduceEq, decide_true, decide_false, decide_eq_true_eq, Int.natAbs_natCast, L2.upd_same, L2.upd_upd, L2.cxOf, L2.gSub])
set_option hygiene false in
local macro_rules | `(tactic| walk_at "rds") => `(tactic| try simp only [L2.start, List.map_cons, List.map_nil, List.length_cons, List.length_nil, Nat.reduceAdd, Nat.reduceSub, Nat.reduceLT, Nat.reduceLeDiff, List.replicate_succ, List.replicate_zero, List.append_nil, List.nil_append, List.cons_append, List.set_cons_zero, List.set_cons_succ, List.getElem?_cons_zero, List.getElem?_cons_succ,
  Option.some.injEq, List.cons.injEq, and_true, true_and, and_assoc, reduceCtorEq, L2.V.int.injEq, L2.V.ref.injEq, L2.V.bl.injEq, L2.V.str.injEq, L2.V.ty.injEq, L2.HO.ins.injEq, L2.HO.lst.injEq, L2.HO.tup.injEq, L2.HO.dK.injEq, exists_eq_left', exists_eq_left, exists_eq_right, exists_eq', exists_eq, exists_and_left, exists_and_right, reduceIte, Bool.false_eq_true, Bool.not_true, Bool.not_false,
  L2.tSeq, L2.tIfS, L2.tRet, L2.tRetN, L2.tNext, L2.tAsg, L2.gName, L2.tVar, L2.tC, L2.tCons, L2.tNil, L2.tCB, L2.tOp, L2.tUn, L2.tTup, L2.tLst, L2.tB, L2.tOr, L2.tAnd, L2.tNot, L2.tAndV, L2.tOrV, L2.tNotV, L2.tIf, L2.tTest, L2.tChain, L2.rI, L2.rI0, L2.rU, L2.tDrop, L2.tNever, L2.tCall, L2.tMeth, L2.tMake, L2.rGcd, L2.tFld, L2.sFld, L2.sFldAug, Mx.sFldA, Mx.sFldAugA, L2.rAdd, L2.rSub, L2.rEq, L2.rNe, L2.tDGet, L2.tDIn, L2.tDNotIn, L2.sDPut,
  Mx.isi_int_bool, Mx.isi_int_int, Mx.isi_int_tuple, Mx.isi_int_list, Mx.isi_int_str, Mx.scal_int, Mx.scal_str, Mx.scal_bl, Mx.ofString_inj, Mx.ofString_beq, Mx.lk_cons, Mx.pf_nil, Mx.pf_cons, Mx.sz1, Mx.sz2, List.lookup_nil, String.reduceEq, decide_true, decide_false, decide_eq_true_eq, Int.natAbs_natCast, L2.upd_same, L2.upd_upd, L2.cxOf, L2.gSub, *])

section
variable {P : Program} {w : World} {K : PySem.W.Frag} {mg : Str → Option Value} {base : Heap}
theorem sc_law_taken : FnScope ["_law_row", "_law_many", "_law_cell"] ["_law_row", "_law_many"] (defScope s_law_taken) := ⟨rfl, rfl, rfl, by decide +kernel, rfl, by decide +kernel, by decide +kernel⟩
theorem ok_law_taken {f : Addr} {fd : FuncData} (F : Fun K "_law_taken" "_law_taken" s_law_taken f fd) (B : Blt mg) : FnOk P w K mg base CX0 1 f fd ["_law_row", "_law_many"] (sp_taken K) := by
  refine F.ok sc_law_taken (fun vs H Q E h => ?_) (fun cdv A outer s H vs Q E hr h => ?_)
  · obtain ⟨r, sc, ns, many, rfl, _⟩ := h
    rfl
  · obtain ⟨r, sc, ns, many, rfl, ⟨pos, mix, p0, m0, m1, hR, hS, hn⟩, h1, k⟩ := h
    refine ⟨_, pss_cons (ps_asg (pe_op op_add (pe_ix ix_list (pv 0) pe_int (fun _ _ => rfl)) pe_int) (pg_sub (pv 0) pe_int set_list))
      (pss_cons (ps_if (pt_cmpR op_gt (pe_ix ix_list (pv 0) pe_int (fun _ _ => rfl)) (pe_callB call_len_seq (by rfl) B.len PySem.boot_len (pa_cons (pe_ix ix_list (pv 0) pe_int (fun _ _ => rfl)) pa_nil)) (nomark _))
        (pss_cons (ps_asg (pe_op op_mod (pe_op op_add (pe_op op_mul (pe_ix ix_list (pv 0) pe_int (fun _ _ => rfl)) pe_int) pe_int) pe_int) (pg_sub (pv 0) pe_int set_list))
          (pss_one (ps_ret (pe_op op_mod (pe_op op_fdiv (pe_ix ix_list (pv 0) pe_int (fun _ _ => rfl)) pe_int) (pv 1))))) pss_nil)
      (pss_cons (ps_set (i := 2) sc_law_taken.nd rfl (.inl rfl) (pe_ix ix_list (pe_ix ix_list (pv 0) pe_int (fun _ _ => rfl)) (pe_op op_sub (pe_ix ix_list (pv 0) pe_int (fun _ _ => rfl)) pe_int) (fun _ _ => rfl)))
      (pss_cons (ps_asg (pe_op op_mod (pe_op op_add (pe_op op_add (pe_op op_mul (pe_ix ix_list (pv 0) pe_int (fun _ _ => rfl)) pe_int) (pv 2)) pe_int) pe_int) (pg_sub (pv 0) pe_int set_list))
      (pss_one (ps_ret (pe_op op_mod (pv 2) (pv 1)))))))
      , ?_⟩
    walk_at "rd"
    refine ixL (.inl (.inl hR)) at3_1 ?_
    walk_at "rd"
    refine setL hR (j := 1) rfl fun H1 g1 s1 => ?_
    have hS1 := seq_or hS s1 hn
    refine ixL (.inl (.inl g1)) at3_1 (ixL (.inl (.inl g1)) at3_0 ?_)
    walk_at "rd"
    refine ⟨_, .inl hS1, ?_⟩
    by_cases hp : pos + 1 > (((ns.map V.int).length : Nat) : Int)
    · walk_at "rd"
      rw [if_pos hp]
      refine ixL (.inl (.inl g1)) at3_2 ?_
      walk_at "rd"
      refine ⟨.inl ⟨by omega, by omega⟩, by decide, ?_⟩
      refine setL g1 (j := 2) rfl fun H2 g2 s2 => ?_
      refine ixL (.inl (.inl g2)) at3_2 ?_
      walk_at "rd"
      have e0 := Int.emod_nonneg (mix * 48271 + 11) (show (2147483647 : Int) ≠ 0 by decide)
      have e1 := Int.emod_lt_of_pos (mix * 48271 + 11) (show (0 : Int) < 2147483647 by decide)
      refine ⟨⟨by decide, by decide⟩, by omega, ?_⟩
      exact k _ H2 (Int.emod_nonneg _ (by omega)) (Int.emod_lt_of_pos _ (by omega)) ⟨pos + 1, _, by omega, e0, e1, g2, seq_or hS1 s2 hn, hn⟩ ((s1.trans s2).sub (by simp))
    · walk_at "rd"
      rw [if_neg hp]
      rw [List.length_map] at hp
      obtain ⟨n, _, hat⟩ := at_nat (ns := ns) (i := pos) p0 (by omega)
      refine ixL (.inl (.inl g1)) at3_0 (ixL (.inl (.inl g1)) at3_1 ?_)
      walk_at "rd"
      refine ixL hS1 (i := pos + 1 - 1) (by rw [show pos + 1 - 1 = pos by omega]; exact hat) ?_
      refine ixL (.inl (.inl g1)) at3_2 ?_
      walk_at "rd"
      refine ⟨.inl ⟨by omega, by omega⟩, by decide, ?_⟩
      refine setL g1 (j := 2) rfl fun H2 g2 s2 => ?_
      walk_at "rd"
      have e0 := Int.emod_nonneg (mix * 48271 + n + 11) (show (2147483647 : Int) ≠ 0 by decide)
      have e1 := Int.emod_lt_of_pos (mix * 48271 + n + 11) (show (0 : Int) < 2147483647 by decide)
      refine ⟨by omega, ?_⟩
      exact k _ H2 (Int.emod_nonneg _ (by omega)) (Int.emod_lt_of_pos _ (by omega)) ⟨pos + 1, _, by omega, e0, e1, g2, seq_or hS1 s2 hn, hn⟩ ((s1.trans s2).sub (by simp))
end
end Mx

namespace Mx
open PySem L2
set_option hygiene false in
local macro_rules | `(tactic| walk_at "rd") => `(tactic| try simp only [L2.start, List.map_cons, List.map_nil, List.length_cons, List.length_nil, Nat.reduceAdd, Nat.reduceSub, Nat.reduceLT, Nat.reduceLeDiff, List.replicate_succ, List.replicate_zero, List.append_nil, List.nil_append, List.cons_append, List.set_cons_zero, List.set_cons_succ, List.getElem?_cons_zero, List.getElem?_cons_succ,
  Option.some.injEq, List.cons.injEq, and_true, true_and, and_assoc, reduceCtorEq, L2.V.int.injEq, L2.V.ref.injEq, L2.V.bl.injEq, L2.V.str.injEq, L2.V.ty.injEq, L2.HO.ins.injEq, L2.HO.lst.injEq, L2.HO.tup.injEq, L2.HO.dK.injEq, exists_eq_left', exists_eq_left, exists_eq_right, exists_eq', exists_eq, exists_and_left, exists_and_right, reduceIte, Bool.false_eq_true, Bool.not_true, Bool.not_false,
  L2.tSeq, L2.tIfS, L2.tRet, L2.tRetN, L2.tNext, L2.tAsg, L2.gName, L2.tVar, L2.tC, L2.tCons, L2.tNil, L2.tCB, L2.tOp, L2.tUn, L2.tTup, L2.tLst, L2.tB, L2.tOr, L2.tAnd, L2.tNot, L2.tAndV, L2.tOrV, L2.tNotV, L2.tIf, L2.tTest, L2.tChain, L2.rI, L2.rI0, L2.rU, L2.tDrop, L2.tNever, L2.tCall, L2.tMeth, L2.tMake, L2.rGcd, L2.tFld, L2.sFld, L2.sFldAug, Mx.sFldA, Mx.sFldAugA, L2.rAdd, L2.rSub, L2.rEq, L2.rNe, L2.tDGet, L2.tDIn, L2.tDNotIn, L2.sDPut,
  Mx.isi_int_bool, Mx.isi_int_int, Mx.isi_int_tuple, Mx.isi_int_list, Mx.isi_int_str, Mx.scal_int, Mx.scal_str, Mx.scal_bl, Mx.ofString_inj, Mx.ofString_beq, Mx.lk_cons, Mx.pf_nil, Mx.pf_cons, Mx.sz1, Mx.sz2, List.lookup_nil, String.reduceEq, decide_true, decide_false, decide_eq_true_eq, Int.natAbs_natCast, L2.upd_same, L2.upd_upd, L2.cxOf, L2.gSub])
set_option hygiene false in
local macro_rules | `(tactic| walk_at "rds") => `(tactic| try simp only [L2.start, List.map_cons, List.map_nil, List.length_cons, List.length_nil, Nat.reduceAdd, Nat.reduceSub, Nat.reduceLT, Nat.reduceLeDiff, List.replicate_succ, List.replicate_zero, List.append_nil, List.nil_append, List.cons_append, List.set_cons_zero, List.set_cons_succ, List.getElem?_cons_zero, List.getElem?_cons_succ,
  Option.some.injEq, List.cons.injEq, and_true, true_and, and_assoc, reduceCtorEq, L2.V.int.injEq, L2.V.ref.injEq, L2.V.bl.injEq, L2.V.str.injEq, L2.V.ty.injEq, L2.HO.ins.injEq, L2.HO.lst.injEq, L2.HO.tup.injEq, L2.HO.dK.injEq, exists_eq_left', exists_eq_left, exists_eq_right, exists_eq', exists_eq, exists_and_left, exists_and_right, reduceIte, Bool.false_eq_true, Bool.not_true, Bool.not_false,
  L2.tSeq, L2.tIfS, L2.tRet, L2.tRetN, L2.tNext, L2.tAsg, L2.gName, L2.tVar, L2.tC, L2.tCons, L2.tNil, L2.tCB, L2.tOp, L2.tUn, L2.tTup, L2.tLst, L2.tB, L2.tOr, L2.tAnd, L2.tNot, L2.tAndV, L2.tOrV, L2.tNotV, L2.tIf, L2.tTest, L2.tChain, L2.rI, L2.rI0, L2.rU, L2.tDrop, L2.tNever, L2.tCall, L2.tMeth, L2.tMake, L2.rGcd, L2.tFld, L2.sFld, L2.sFldAug, Mx.sFldA, Mx.sFldAugA, L2.rAdd, L2.rSub, L2.rEq, L2.rNe, L2.tDGet, L2.tDIn, L2.tDNotIn, L2.sDPut,
  Mx.isi_int_bool, Mx.isi_int_int, Mx.isi_int_tuple, Mx.isi_int_list, Mx.isi_int_str, Mx.scal_int, Mx.scal_str, Mx.scal_bl, Mx.ofString_inj, Mx.ofString_beq, Mx.lk_cons, Mx.pf_nil, Mx.pf_cons, Mx.sz1, Mx.sz2, List.lookup_nil, String.reduceEq, decide_true, decide_false, decide_eq_true_eq, Int.natAbs_natCast, L2.upd_same, L2.upd_upd, L2.cxOf, L2.gSub, *])

section
variable {P : Program} {w : World} {K : PySem.W.Frag} {mg : Str → Option Value} {base : Heap}
/-! ### a fraction in lowest terms, by taking rests -/
/-! ### numbers, paces, loudness -/
def sp_drawn (K : PySem.W.Frag) (lo hi : Int) : Sp := fun vs H Q _ => ∃ (r sc : Addr) (ns : List Int), vs = [.ref r] ∧ RowAt K H r sc ns ∧ ∀ v H', lo ≤ v → v ≤ hi → RowAt K H' r sc ns → Stp [r] H H' → Q (.int v) H'
theorem row_new {H : Hp} {r sc p : Addr} {ns : List Int} {o : HO} (h : RowAt K H r sc ns) (hp : H p = none) : RowAt K (upd H p o) r sc ns := h.st0 (Stp.new hp)
end
end Mx

namespace Mx
open PySem L2
set_option hygiene false in
local macro_rules | `(tactic| walk_at "rd") => `(tactic| try simp only [L2.start, List.map_cons, List.map_nil, List.length_cons, List.length_nil, Nat.reduceAdd, Nat.reduceSub, Nat.reduceLT, Nat.reduceLeDiff, List.replicate_succ, List.replicate_zero, List.append_nil, List.nil_append, List.cons_append, List.set_cons_zero, List.set_cons_succ, List.getElem?_cons_zero, List.getElem?_cons_succ,
  Option.some.injEq, List.cons.injEq, and_true, true_and, and_assoc, reduceCtorEq, L2.V.int.injEq, L2.V.ref.injEq, L2.V.bl.injEq, L2.V.str.injEq, L2.V.ty.injEq, L2.HO.ins.injEq, L2.HO.lst.injEq, L2.HO.tup.injEq, L2.HO.dK.injEq, exists_eq_left', exists_eq_left, exists_eq_right, exists_eq', exists_eq, exists_and_left, exists_and_right, reduceIte, Bool.false_eq_true, Bool.not_true, Bool.not_false,
  L2.tSeq, L2.tIfS, L2.tRet, L2.tRetN, L2.tNext, L2.tAsg, L2.gName, L2.tVar, L2.tC, L2.tCons, L2.tNil, L2.tCB, L2.tOp, L2.tUn, L2.tTup, L2.tLst, L2.tB, L2.tOr, L2.tAnd, L2.tNot, L2.tAndV, L2.tOrV, L2.tNotV, L2.tIf, L2.tTest, L2.tChain, L2.rI, L2.rI0, L2.rU, L2.tDrop, L2.tNever, L2.tCall, L2.tMeth, L2.tMake, L2.rGcd, L2.tFld, L2.sFld, L2.sFldAug, Mx.sFldA, Mx.sFldAugA, L2.rAdd, L2.rSub, L2.rEq, L2.rNe, L2.tDGet, L2.tDIn, L2.tDNotIn, L2.sDPut,
  Mx.isi_int_bool, Mx.isi_int_int, Mx.isi_int_tuple, Mx.isi_int_list, Mx.isi_int_str, Mx.scal_int, Mx.scal_str, Mx.scal_bl, Mx.ofString_inj, Mx.ofString_beq, Mx.lk_cons, Mx.pf_nil, Mx.pf_cons, Mx.sz1, Mx.sz2, List.lookup_nil, String.reduceEq, decide_true, decide_false, decide_eq_true_eq, Int.natAbs_natCast, L2.upd_same, L2.upd_upd, L2.cxOf, L2.gSub])
set_option hygiene false in
local macro_rules | `(tactic| walk_at "rds") => `(tactic| try simp only [L2.start, List.map_cons, List.map_nil, List.length_cons, List.length_nil, Nat.reduceAdd, Nat.reduceSub, Nat.reduceLT, Nat.reduceLeDiff, List.replicate_succ, List.replicate_zero, List.append_nil, List.nil_append, List.cons_append, List.set_cons_zero, List.set_cons_succ, List.getElem?_cons_zero, List.getElem?_cons_succ,
  Option.some.injEq, List.cons.injEq, and_true, true_and, and_assoc, reduceCtorEq, L2.V.int.injEq, L2.V.ref.injEq, L2.V.bl.injEq, L2.V.str.injEq, L2.V.ty.injEq, L2.HO.ins.injEq, L2.HO.lst.injEq, L2.HO.tup.injEq, L2.HO.dK.injEq, exists_eq_left', exists_eq_left, exists_eq_right, exists_eq', exists_eq, exists_and_left, exists_and_right, reduceIte, Bool.false_eq_true, Bool.not_true, Bool.not_false,
  L2.tSeq, L2.tIfS, L2.tRet, L2.tRetN, L2.tNext, L2.tAsg, L2.gName, L2.tVar, L2.tC, L2.tCons, L2.tNil, L2.tCB, L2.tOp, L2.tUn, L2.tTup, L2.tLst, L2.tB, L2.tOr, L2.tAnd, L2.tNot, L2.tAndV, L2.tOrV, L2.tNotV, L2.tIf, L2.tTest, L2.tChain, L2.rI, L2.rI0, L2.rU, L2.tDrop, L2.tNever, L2.tCall, L2.tMeth, L2.tMake, L2.rGcd, L2.tFld, L2.sFld, L2.sFldAug, Mx.sFldA, Mx.sFldAugA, L2.rAdd, L2.rSub, L2.rEq, L2.rNe, L2.tDGet, L2.tDIn, L2.tDNotIn, L2.sDPut,
  Mx.isi_int_bool, Mx.isi_int_int, Mx.isi_int_tuple, Mx.isi_int_list, Mx.isi_int_str, Mx.scal_int, Mx.scal_str, Mx.scal_bl, Mx.ofString_inj, Mx.ofString_beq, Mx.lk_cons, Mx.pf_nil, Mx.pf_cons, Mx.sz1, Mx.sz2, List.lookup_nil, String.reduceEq, decide_true, decide_false, decide_eq_true_eq, Int.natAbs_natCast, L2.upd_same, L2.upd_upd, L2.cxOf, L2.gSub, *])

section
variable {P : Program} {w : World} {K : PySem.W.Frag} {mg : Str → Option Value} {base : Heap}
theorem row_ne {H : Hp} {r sc p : Addr} {ns : List Int} (h : RowAt K H r sc ns) (hp : H p = none) : p ≠ r := by
  obtain ⟨_, _, _, _, _, hr2, _⟩ := h
  exact (ne_of_none hr2 hp).symm
def sp_law_pace (K : PySem.W.Frag) : Sp := fun vs H Q _ => ∃ (r sc : Addr) (ns : List Int), vs = [.ref r] ∧ RowAt K H r sc ns ∧ ∀ p H' pn pb, H p = none → 1 ≤ pn → pn ≤ 8 → 1 ≤ pb → pb ≤ 8 → RowAt K H' r sc ns → Stp [r] H H' → H' p = some (.tup [.int pn, .int pb]) → Q (.ref p) H'
theorem sc_law_pace : FnScope ["_law_row"] ["_law_row"] (defScope s_law_pace) := ⟨rfl, rfl, rfl, by decide +kernel, rfl, by decide +kernel, by decide +kernel⟩
theorem ok_law_pace {f : Addr} {fd : FuncData} (F : Fun K "_law_pace" "_law_pace" s_law_pace f fd) (G : OwnF P w K mg base "_law_taken" 1 ["_law_row", "_law_many"] (sp_taken K)) : FnOk P w K mg base CX0 2 f fd ["_law_row"] (sp_law_pace K) := by
  refine F.ok sc_law_pace (fun vs H Q E h => ?_) (fun cdv A outer s H vs Q E hr h => ?_)
  · obtain ⟨r, sc, ns, rfl, _⟩ := h
    rfl
  · obtain ⟨r, sc, ns, rfl, hR, k⟩ := h
    refine ⟨_, pss_one (ps_ret (pe_tup (pa_cons (pe_op op_add pe_int (p_call G hr (pa_cons (pv 0) (pa_cons (pe_ix ix_list (pe_lst (pa_cons pe_int (pa_cons pe_int pa_nil))) (p_call G hr (pa_cons (pv 0) (pa_cons pe_int pa_nil))) (fun _ _ => rfl)) pa_nil))))
      (pa_cons (pe_op op_add pe_int (p_call G hr (pa_cons (pv 0) (pa_cons (pe_ix ix_list (pe_lst (pa_cons pe_int (pa_cons pe_int pa_nil))) (p_call G hr (pa_cons (pv 0) (pa_cons pe_int pa_nil))) (fun _ _ => rfl)) pa_nil)))) pa_nil)))), ?_⟩
    walk_at "rd"
    intro p1 hp1
    have s1 := Stp.new (o := .lst [.int 2, .int 8]) hp1
    have hn1 := row_ne hR hp1
    refine ⟨r, sc, ns, 2, rfl, row_new hR hp1, by decide, fun c H2 c0 c1 hR2 s2 => ?_⟩
    have hl1 := s2.keep _ _ (upd_same (H := H) (a := p1) (o := .lst [.int 2, .int 8])) (by simpa using hn1)
    have hx : ∃ x : Int, 2 ≤ x ∧ x ≤ 8 ∧ atI [V.int 2, V.int 8] c = some (.int x) := by
      have hc : c = 0 ∨ c = 1 := by omega
      rcases hc with rfl | rfl
      · exact ⟨2, by decide, by decide, rfl⟩
      · exact ⟨8, by decide, by decide, rfl⟩
    obtain ⟨x, x0, x1, hx⟩ := hx
    refine ixL (.inl (.inl hl1)) hx ?_
    refine ⟨r, sc, ns, x, rfl, hR2, by omega, fun a H3 a0 a1 hR3 s3 => ?_⟩
    have t3 := ((s1.trans s2).trans s3).sub (G := [r]) (by simp)
    walk_at "rd"
    intro p4 hp4
    have s4 := Stp.new (o := .lst [.int 3, .int 8]) hp4
    have hn4 := row_ne hR3 hp4
    refine ⟨r, sc, ns, 2, rfl, row_new hR3 hp4, by decide, fun c2 H5 c20 c21 hR5 s5 => ?_⟩
    have hl4 := s5.keep _ _ (upd_same (H := H3) (a := p4) (o := .lst [.int 3, .int 8])) (by simpa using hn4)
    have hy : ∃ x : Int, 3 ≤ x ∧ x ≤ 8 ∧ atI [V.int 3, V.int 8] c2 = some (.int x) := by
      have hc : c2 = 0 ∨ c2 = 1 := by omega
      rcases hc with rfl | rfl
      · exact ⟨3, by decide, by decide, rfl⟩
      · exact ⟨8, by decide, by decide, rfl⟩
    obtain ⟨y, y0, y1, hy⟩ := hy
    refine ixL (.inl (.inl hl4)) hy ?_
    refine ⟨r, sc, ns, y, rfl, hR5, by omega, fun b H6 b0 b1 hR6 s6 => ?_⟩
    have t6 := ((t3.trans s4).trans (s5.trans s6)).sub (G := [r]) (by simp)
    walk_at "rd"
    intro p hp
    have hpn := row_ne hR6 hp
    exact k p _ (1 + a) (1 + b) (t6.free hp (by simpa using hpn)) (by omega) (by omega) (by omega) (by omega) (row_new hR6 hp) ((t6.trans (Stp.new hp)).sub (by simp)) upd_same
/-! ### the same, and of the same kinds -/
def sp_alike_int : Sp := fun vs H Q _ => ∃ (a b : Int), vs = [.int a, .int b] ∧ Q (.bl (decide (a = b))) H
theorem sc_law_alike : FnScope ["_law_found", "_law_due", "_law_k"] ["_law_found", "_law_due"] (defScope s_law_alike) := ⟨rfl, rfl, rfl, by decide +kernel, rfl, by decide +kernel, by decide +kernel⟩
theorem ok_alike_int {f : Addr} {fd : FuncData} (F : Fun K "_law_alike" "_law_alike" s_law_alike f fd) (B : Blt mg) : FnOk P w K mg base CX0 1 f fd ["_law_found", "_law_due"] sp_alike_int := by
  refine F.ok sc_law_alike (fun vs H Q E h => ?_) (fun cdv A outer s H vs Q E hr h => ?_)
  · obtain ⟨a, b, rfl, _⟩ := h
    rfl
  · obtain ⟨a, b, rfl, k⟩ := h
    refine ⟨_, pss_cons (ps_if (PW.pt (pw_or (pt_val (b_isi B (pv 1) B.tuple PyProof.Rows.boot_tuple)) (pw_or1 (pt_val (b_isi B (pv 1) B.list PyProof.Rows.boot_list))))) pss_never pss_nil)
      (pss_cons (ps_if (PW.pt (pw_or (pt_cmpR op_isN (pv 1) pe_non (nomark _)) (pw_or1 (pt_cmpR op_isN (pv 0) pe_non (nomark _))))) pss_never pss_nil)
      (pss_cons (ps_if (PW.pt (pw_or (pt_val (b_isi B (pv 1) B.bool PyProof.Rows.boot_bool)) (pw_or1 (pt_val (b_isi B (pv 0) B.bool PyProof.Rows.boot_bool))))) pss_never pss_nil)
      (pss_cons (ps_if (pt_val (b_isi B (pv 1) B.str PyProof.Rows.boot_str)) pss_never pss_nil)
      (pss_one (ps_ret (pe_and (b_isi B (pv 0) B.int PyProof.Rows.boot_int) (pe_one (pe_cmpR op_eq (pv 0) (pv 1) (nomark _))))))))), ?_⟩
    walk_at "rd"
    exact k
def sp_alike_tup (K : PySem.W.Frag) : Sp := fun vs H Q _ => ∃ (a b : Addr) (xs ys : List Int), vs = [.ref a, .ref b] ∧ TupAt K H a (xs.map V.int) ∧ TupAt K H b (ys.map V.int) ∧ xs.length = ys.length ∧ ys.length ≤ 60 ∧ ∀ H', Stp [] H H' → Q (.bl (decide (xs = ys))) H'
theorem tyx_tup {H : Hp} {a : Addr} {xs : List V} (h : TupAt K H a xs) : TyX K H (.ref a) (.type "tuple") := by
  rcases h with h | h
  · exact .base (.tup h)
  · rcases h (fun _ => none) with (q | ⟨o, q⟩) | ⟨o, its, n, h1, h2, _⟩
    · cases q
    · cases q
    · exact .kTuple h1 h2
theorem isi_tupA {H : Hp} {Q : VK} {a : Addr} {xs : List V} {T : String} {b : Bool} (h : TupAt K H a xs) (hb : kitB "tuple" T = some b) (q : Q (.bl b) H) : rIsi K [.ref a, .ty T] H Q := ⟨_, _, _, _, _, rfl, .ty _, tyx_tup h, kit_ty hb, q⟩
theorem dp_ints {H : Hp} : ∀ (ns : List Int), DpAll K H (ns.map V.int) (ns.map PyData.int)
  | [] => .nil
  | n :: r => .cons (.int n) (dp_ints r)
theorem eqv_nil (ns : List Int) : PyData.eqv (.list (ns.map PyData.int)) (.list []) = ns.isEmpty := by
  cases ns with
  | nil => rfl
  | cons n r => rfl
def diffs (xs ys : List Int) (i : Nat) : List Int := ((List.range i).filter fun j => decide (xs[j]? ≠ ys[j]?)).map fun j => ((j : Nat) : Int)
theorem diffs_succ (xs ys : List Int) (i : Nat) : diffs xs ys (i + 1) = diffs xs ys i ++ (if xs[i]? ≠ ys[i]? then [(i : Int)] else []) := by
  unfold diffs
  rw [List.range_succ, List.filter_append, List.map_append]
  congr 1
  by_cases h : xs[i]? ≠ ys[i]?
  · rw [if_pos h, List.filter_cons_of_pos (by simpa using h)]
    rfl
  · rw [if_neg h, List.filter_cons_of_neg (by simpa using h)]
    rfl
theorem diffs_len (xs ys : List Int) (i : Nat) : (diffs xs ys i).length ≤ i := by
  unfold diffs
  rw [List.length_map]
  refine Nat.le_trans (List.length_filter_le _ _) ?_
  rw [List.length_range]
  exact Nat.le_refl _
theorem diffs_nil {xs ys : List Int} (h : xs.length = ys.length) : (diffs xs ys ys.length).isEmpty = decide (xs = ys) := by
  by_cases e : xs = ys
  · subst e
    simp [diffs]
  · rw [decide_eq_false e]
    unfold diffs
    cases q : ((List.range ys.length).filter fun j => decide (xs[j]? ≠ ys[j]?)) with
    | cons a r => rfl
    | nil =>
      exfalso
      apply e
      apply List.ext_getElem? 
      intro j
      by_cases hj : j < ys.length
      · have := List.filter_eq_nil_iff.mp q j (List.mem_range.mpr hj)
        simpa using this
      · rw [List.getElem?_eq_none (by omega), List.getElem?_eq_none (by omega)]
theorem ok_alike_tup {f : Addr} {fd : FuncData} (F : Fun K "_law_alike" "_law_alike" s_law_alike f fd) (B : Blt mg) (G : OwnF P w K mg base "_law_alike" 1 ["_law_found", "_law_due"] sp_alike_int) : FnOk P w K mg base CX0 2 f fd ["_law_found", "_law_due"] (sp_alike_tup K) := by
  refine F.ok sc_law_alike (fun vs H Q E h => ?_) (fun cdv A outer s H vs Q E hr h => ?_)
  · obtain ⟨a, b, xs, ys, rfl, _⟩ := h
    rfl
  · obtain ⟨a, b, xs, ys, rfl, ha, hb, hl, hlen, k⟩ := h
    have hu := hu_of hr
    have hu64 : (A.deeper (PyProof.Rows.envOfC "_law_alike" (defScope s_law_alike) s.heap.objs.size f cdv)).units + 64 < cLine := by
      have := hr.un
      omega
    refine ⟨_, pss_cons (ps_if (PW.pt (pw_or (pt_val (b_isi B (pv 1) B.tuple PyProof.Rows.boot_tuple)) (pw_or1 (pt_val (b_isi B (pv 1) B.list PyProof.Rows.boot_list)))))
        (pss_cons (ps_if (PW.pt (pw_or (pt_cmpR op_ne (b_isi B (pv 0) B.tuple PyProof.Rows.boot_tuple) (b_isi B (pv 1) B.tuple PyProof.Rows.boot_tuple) (nomark _)) (pw_or1 (pt_not (pt_val (pe_callB call_isiT (by rfl) B.isi PyProof.Rows.boot_isinstance (pa_cons (pv 0) (pa_cons (pe_tup (pa_cons (pe_bltn (v := .ty "tuple") (by rfl) B.tuple PyProof.Rows.boot_tuple rfl) (pa_cons (pe_bltn (v := .ty "list") (by rfl) B.list PyProof.Rows.boot_list rfl) pa_nil))) pa_nil)))))))) pss_never pss_nil)
        (pss_cons (ps_if (pt_cmpR op_ne (pe_callB call_len_seq (by rfl) B.len PySem.boot_len (pa_cons (pv 0) pa_nil)) (pe_callB call_len_seq (by rfl) B.len PySem.boot_len (pa_cons (pv 1) pa_nil)) (nomark _)) pss_never pss_nil)
        (pss_one (ps_ret (pe_cmpR (op_eqD hu64) (pe_lc (own := [("_law_k", 2)]) (te := tVar 2) (tt := tNot (tB (tCall sp_alike_int [] E0 (tCons (tOp (rIxT K) (tVar 0) (tVar 2)) (tCons (tOp (rIxT K) (tVar 1) (tVar 2)) tNil)))))
            rfl sc_law_alike.nd (pi_range1 (by rfl) B.range (pa_cons (pe_callB call_len_seq (by rfl) B.len PySem.boot_len (pa_cons (pv 1) pa_nil)) pa_nil)) (blkOk_by (N := ["_law_found", "_law_due", "_law_k"]) (sc := defScope s_law_alike) (by decide +kernel))
            (fun _ _ _ _ _ => pg_name (i := 2) sc_law_alike.nd rfl (.inl rfl)) (fun _ _ _ _ _ => pts_one (pt_not (pt_val (p_call G hr (pa_cons (pe_ix ix_tup (pv 0) (pv 2) (fun _ _ => rfl)) (pa_cons (pe_ix ix_tup (pv 1) (pv 2) (fun _ _ => rfl)) pa_nil)))))) (fun _ _ _ _ _ => pv 2)) (pe_lst pa_nil) (nomark _)))))) pss_nil)
      pss_never, ?_⟩
    walk_at "rd"
    refine isi_tupA hb (b := true) (by decide +kernel) ?_
    walk_at "rd"
    refine isi_tupA ha (b := true) (by decide +kernel) (isi_tupA hb (b := true) (by decide +kernel) ?_)
    walk_at "rd"
    intro T hT
    have s1 := Stp.new (o := .tup [.ty "tuple", .ty "list"]) hT
    refine ⟨.ref a, T, _, _, _, true, rfl, upd_same, .cons (.ty _) (.cons (.ty _) .nil), tyx_tup (ha.st s1), kitAny_cons (b := true) (kit_ty (by decide +kernel)) (fun z => nomatch z) (fun _ => rfl), ?_⟩
    have ha1 := ha.st s1
    have hb1 := hb.st s1
    generalize upd H T (.tup [.ty "tuple", .ty "list"]) = H1 at *
    walk_at "rd"
    refine ⟨_, .inr ha1.sq, _, .inr hb1.sq, ?_⟩
    walk_at "rd"
    rw [decide_eq_true (show (((xs.map V.int).length : Nat) : Int) = (((ys.map V.int).length : Nat) : Int) by rw [List.length_map, List.length_map, hl])]
    refine iteF ?_
    have hn : (((ys.map V.int).length : Nat) : Int).toNat = ys.length := by rw [List.length_map]; omega
    have hn2 : (((ys.map V.int).length : Nat) : Int) ≤ 60 := by rw [List.length_map]; omega
    refine ⟨_, rfl, b, rfl, _, .inr hb1.sq, _, rfl, by omega, by omega, ?_⟩
    rw [hn]
    intro D hD
    refine lc_range (lo := 0) (n := ys.length) (fun i H' => Stp [] H1 H' ∧ H' D = some (.lst ((diffs xs ys i).map V.int))) ⟨Stp.new hD, upd_same⟩ (fun i H' hi h => ?_) (fun H' h => ?_)
    · obtain ⟨s2, hl2⟩ := h
      have ha2 := ha1.st s2
      have hb2 := hb1.st s2
      have hx : xs[i]? = some (xs[i]'(by omega)) := List.getElem?_eq_getElem _
      have hy : ys[i]? = some (ys[i]'hi) := List.getElem?_eq_getElem _
      have atx : ∀ (zs : List Int) (hz : i < zs.length), atI (zs.map V.int) (0 + (i : Int)) = some (.int (zs[i]'hz)) := by
        intro zs hz
        unfold atI ixN
        rw [if_pos (by omega), List.length_map, if_pos (by omega)]
        show (zs.map V.int)[(0 + (i : Int)).toNat]? = _
        rw [show (0 + (i : Int)).toNat = i by omega, List.getElem?_map, List.getElem?_eq_getElem hz]
        rfl
      refine ⟨wipe1, ⟨_, rfl, _, rfl, a, _, _, _, rfl, rfl, ha2.sq, atx xs (by omega), _, rfl, _, rfl, b, _, _, _, rfl, rfl, hb2.sq, atx ys hi, _, _, rfl, _, rfl, ?_⟩⟩
      have hds := diffs_succ xs ys i
      rw [hx, hy] at hds
      by_cases e : xs[i]'(by omega) = ys[i]'hi
      · rw [decide_eq_true e]
        rw [if_neg (by rw [e]; simp), List.append_nil] at hds
        refine iteF ?_
        rw [hds]
        exact ⟨s2, hl2⟩
      · rw [decide_eq_false e]
        rw [if_pos (by simpa using e)] at hds
        refine iteT ⟨_, rfl, _, hl2, ?_, ?_, ?_⟩
        · rw [List.length_map]
          have := diffs_len xs ys i
          exact Nat.lt_of_le_of_lt (show _ ≤ 100 by omega) (by decide)
        · exact stp_acc s2 hD (by rw [hl2]; intro ys z; cases z)
        · rw [upd_same, hds, List.map_append]
          congr 3
          show V.int (0 + (i : Int)) :: [] = _
          rw [Int.zero_add]
          rfl
    · obtain ⟨s2, hl2⟩ := h
      refine ⟨Nat.zero_le _, fun p hp => ?_⟩
      have s3 := Stp.new (o := .lst []) hp
      refine ⟨_, _, .lst (.inl (.inl (s3.keep _ _ hl2 (by simp)))) (dp_ints _), .lst (.inl (.inl upd_same)) .nil, ?_, rfl, ?_⟩
      · exact PySem.W.ke_shaped_ints _
      · rw [eqv_nil, diffs_nil hl]
        exact k _ (s1.trans (s2.trans s3))
end
end Mx

namespace Mx
open PySem L2
set_option hygiene false in
local macro_rules | `(tactic| walk_at "rd") => `(tactic| try simp only [L2.start, List.map_cons, List.map_nil, List.length_cons, List.length_nil, Nat.reduceAdd, Nat.reduceSub, Nat.reduceLT, Nat.reduceLeDiff, List.replicate_succ, List.replicate_zero, List.append_nil, List.nil_append, List.cons_append, List.set_cons_zero, List.set_cons_succ, List.getElem?_cons_zero, List.getElem?_cons_succ,
  Option.some.injEq, List.cons.injEq, and_true, true_and, and_assoc, reduceCtorEq, L2.V.int.injEq, L2.V.ref.injEq, L2.V.bl.injEq, L2.V.str.injEq, L2.V.ty.injEq, L2.HO.ins.injEq, L2.HO.lst.injEq, L2.HO.tup.injEq, L2.HO.dK.injEq, exists_eq_left', exists_eq_left, exists_eq_right, exists_eq', exists_eq, exists_and_left, exists_and_right, reduceIte, Bool.false_eq_true, Bool.not_true, Bool.not_false,
  L2.tSeq, L2.tIfS, L2.tRet, L2.tRetN, L2.tNext, L2.tAsg, L2.gName, L2.tVar, L2.tC, L2.tCons, L2.tNil, L2.tCB, L2.tOp, L2.tUn, L2.tTup, L2.tLst, L2.tB, L2.tOr, L2.tAnd, L2.tNot, L2.tAndV, L2.tOrV, L2.tNotV, L2.tIf, L2.tTest, L2.tChain, L2.rI, L2.rI0, L2.rU, L2.tDrop, L2.tNever, L2.tCall, L2.tMeth, L2.tMake, L2.rGcd, L2.tFld, L2.sFld, L2.sFldAug, Mx.sFldA, Mx.sFldAugA, L2.rAdd, L2.rSub, L2.rEq, L2.rNe, L2.tDGet, L2.tDIn, L2.tDNotIn, L2.sDPut,
  Mx.isi_int_bool, Mx.isi_int_int, Mx.isi_int_tuple, Mx.isi_int_list, Mx.isi_int_str, Mx.scal_int, Mx.scal_str, Mx.scal_bl, Mx.ofString_inj, Mx.ofString_beq, Mx.lk_cons, Mx.pf_nil, Mx.pf_cons, Mx.sz1, Mx.sz2, List.lookup_nil, String.reduceEq, decide_true, decide_false, decide_eq_true_eq, Int.natAbs_natCast, L2.upd_same, L2.upd_upd, L2.cxOf, L2.gSub])
set_option hygiene false in
local macro_rules | `(tactic| walk_at "rds") => `(tactic| try simp only [L2.start, List.map_cons, List.map_nil, List.length_cons, List.length_nil, Nat.reduceAdd, Nat.reduceSub, Nat.reduceLT, Nat.reduceLeDiff, List.replicate_succ, List.replicate_zero, List.append_nil, List.nil_append, List.cons_append, List.set_cons_zero, List.set_cons_succ, List.getElem?_cons_zero, List.getElem?_cons_succ,
  Option.some.injEq, List.cons.injEq, and_true, true_and, and_assoc, reduceCtorEq, L2.V.int.injEq, L2.V.ref.injEq, L2.V.bl.injEq, L2.V.str.injEq, L2.V.ty.injEq, L2.HO.ins.injEq, L2.HO.lst.injEq, L2.HO.tup.injEq, L2.HO.dK.injEq, exists_eq_left', exists_eq_left, exists_eq_right, exists_eq', exists_eq, exists_and_left, exists_and_right, reduceIte, Bool.false_eq_true, Bool.not_true, Bool.not_false,
  L2.tSeq, L2.tIfS, L2.tRet, L2.tRetN, L2.tNext, L2.tAsg, L2.gName, L2.tVar, L2.tC, L2.tCons, L2.tNil, L2.tCB, L2.tOp, L2.tUn, L2.tTup, L2.tLst, L2.tB, L2.tOr, L2.tAnd, L2.tNot, L2.tAndV, L2.tOrV, L2.tNotV, L2.tIf, L2.tTest, L2.tChain, L2.rI, L2.rI0, L2.rU, L2.tDrop, L2.tNever, L2.tCall, L2.tMeth, L2.tMake, L2.rGcd, L2.tFld, L2.sFld, L2.sFldAug, Mx.sFldA, Mx.sFldAugA, L2.rAdd, L2.rSub, L2.rEq, L2.rNe, L2.tDGet, L2.tDIn, L2.tDNotIn, L2.sDPut,
  Mx.isi_int_bool, Mx.isi_int_int, Mx.isi_int_tuple, Mx.isi_int_list, Mx.isi_int_str, Mx.scal_int, Mx.scal_str, Mx.scal_bl, Mx.ofString_inj, Mx.ofString_beq, Mx.lk_cons, Mx.pf_nil, Mx.pf_cons, Mx.sz1, Mx.sz2, List.lookup_nil, String.reduceEq, decide_true, decide_false, decide_eq_true_eq, Int.natAbs_natCast, L2.upd_same, L2.upd_upd, L2.cxOf, L2.gSub, *])

section
variable {P : Program} {w : World} {K : PySem.W.Frag} {mg : Str → Option Value} {base : Heap}
/-! ### the same at every place, however deep -/
def EqB (v w : V) : Prop := (∃ i, v = .int i ∧ w = .int i) ∨ (∃ x, PyData.strOk x = true ∧ v = .str x ∧ w = .str x) ∨ (v = .non ∧ w = .non)
def EqT (K : PySem.W.Frag) (H : Hp) : Nat → V → V → Prop
  | 0, v, w => EqB v w
  | n + 1, v, w => EqB v w ∨ ∃ (a b : Addr) (xs ys : List V), v = .ref a ∧ w = .ref b ∧ (TupAt K H a xs ∧ TupAt K H b ys ∨ H a = some (.lst xs) ∧ H b = some (.lst ys)) ∧ xs.length ≤ 100000 ∧ Paired (EqT K H n) xs ys
abbrev EqS (K : PySem.W.Frag) (H : Hp) (n : Nat) := Paired (EqT K H n)
theorem pr_map {α β : Type} {R S : α → β → Prop} (f : ∀ a b, R a b → S a b) : ∀ {xs : List α} {ys : List β}, Paired R xs ys → Paired S xs ys
  | _, _, .nil => .nil
  | _, _, .cons h r => .cons (f _ _ h) (pr_map f r)
theorem EqT.stF {F : List Addr} {H H' : Hp} (s : Stp F H H') (hF : ∀ b ∈ F, ∀ xs, H b ≠ some (.lst xs)) : ∀ {n : Nat} {v w : V}, EqT K H n v w → EqT K H' n v w
  | 0, _, _, h => h
  | n + 1, v, w, h => by
    rcases h with h | ⟨a, b, xs, ys, e1, e2, h, hl, hp⟩
    · exact .inl h
    · refine .inr ⟨a, b, xs, ys, e1, e2, ?_, hl, pr_map (fun _ _ q => EqT.stF s hF q) hp⟩
      rcases h with ⟨h1, h2⟩ | ⟨h1, h2⟩
      · exact .inl ⟨h1.st s, h2.st s⟩
      · exact .inr ⟨s.keep _ _ h1 fun z => hF _ z _ h1, s.keep _ _ h2 fun z => hF _ z _ h2⟩
theorem EqT.st {H H' : Hp} {n : Nat} {v w : V} (h : EqT K H n v w) (s : Stp [] H H') : EqT K H' n v w := h.stF s (fun _ z => nomatch z)
theorem EqS.st {H H' : Hp} {n : Nat} {xs ys : List V} (h : Paired (EqT K H n) xs ys) (s : Stp [] H H') : Paired (EqT K H' n) xs ys := pr_map (fun _ _ q => q.st s) h
theorem EqT.up {H : Hp} : ∀ {n : Nat} {v w : V}, EqT K H n v w → EqT K H (n + 1) v w
  | 0, _, _, h => .inl h
  | n + 1, v, w, h => by
    rcases h with h | ⟨a, b, xs, ys, e1, e2, h, hl, hp⟩
    · exact .inl h
    · exact .inr ⟨a, b, xs, ys, e1, e2, h, hl, pr_map (fun _ _ q => q.up) hp⟩
theorem pr_get {α β : Type} {R : α → β → Prop} : ∀ {xs : List α} {ys : List β}, Paired R xs ys → ∀ i, i < xs.length → i < ys.length → ∃ x y, xs[i]? = some x ∧ ys[i]? = some y ∧ R x y
  | _, _, .nil, _, h, _ => absurd h (Nat.not_lt_zero _)
  | _, _, .cons h _, 0, _, _ => ⟨_, _, rfl, rfl, h⟩
  | _, _, .cons _ r, i + 1, h1, h2 => by
    obtain ⟨x, y, e1, e2, q⟩ := pr_get r i (Nat.lt_of_succ_lt_succ h1) (Nat.lt_of_succ_lt_succ h2)
    exact ⟨x, y, e1, e2, q⟩
theorem at_pos {xs : List V} {i : Nat} {x : V} (h : xs[i]? = some x) : atI xs (0 + (i : Int)) = some x := by
  obtain ⟨hl, _⟩ := List.getElem?_eq_some_iff.mp h
  unfold atI ixN
  rw [if_pos (by omega), if_pos (by omega)]
  show xs[(0 + (i : Int)).toNat]? = _
  rw [show (0 + (i : Int)).toNat = i by omega]
  exact h
theorem isi_lstA {H : Hp} {Q : VK} {a : Addr} {xs : List V} {T : String} {b : Bool} (h : H a = some (.lst xs)) (hb : kitB "list" T = some b) (q : Q (.bl b) H) : rIsi K [.ref a, .ty T] H Q := ⟨_, _, _, _, _, rfl, .ty _, .base (.lst h), kit_ty hb, q⟩
theorem isi_strA {H : Hp} {Q : VK} {x : Str} {T : String} {b : Bool} (hb : kitB "str" T = some b) (q : Q (.bl b) H) : rIsi K [.str x, .ty T] H Q := ⟨_, _, _, _, _, rfl, .ty _, .base (.str x), kit_ty hb, q⟩
theorem isi_nonA {H : Hp} {Q : VK} {T : String} {b : Bool} (hb : kitB "NoneType" T = some b) (q : Q (.bl b) H) : rIsi K [.non, .ty T] H Q := ⟨_, _, _, _, _, rfl, .ty _, .base .non, kit_ty hb, q⟩
def sp_eq (K : PySem.W.Frag) (n : Nat) : Sp := fun vs H Q _ => ∃ v w, vs = [v, w] ∧ EqT K H n v w ∧ ∀ H', Stp [] H H' → Q (.bl true) H'
theorem ok_alike_deep {f : Addr} {fd : FuncData} (F : Fun K "_law_alike" "_law_alike" s_law_alike f fd) (B : Blt mg) (hm : mg "_law_alike" = some (.ref f)) (hk : PySem.W.keepIn K (.ref f) = true) (hb : Binds K fd ["_law_found", "_law_due"] []) :
    ∀ n, FnOk P w K mg base CX0 (n + 1) f fd ["_law_found", "_law_due"] (sp_eq K n)
  | 0 => by
    refine F.ok sc_law_alike (fun vs H Q E h => ?_) (fun cdv A outer s H vs Q E hr h => ?_)
    · obtain ⟨v, w', rfl, _⟩ := h
      rfl
    obtain ⟨v, w', rfl, h, k⟩ := h
    rcases h with ⟨i, rfl, rfl⟩ | ⟨x, hx, rfl, rfl⟩ | ⟨rfl, rfl⟩
    · refine ⟨_, pss_cons (ps_if (PW.pt (pw_or (pt_val (b_isi B (pv 1) B.tuple PyProof.Rows.boot_tuple)) (pw_or1 (pt_val (b_isi B (pv 1) B.list PyProof.Rows.boot_list))))) pss_never pss_nil)
      (pss_cons (ps_if (PW.pt (pw_or (pt_cmpR op_isN (pv 1) pe_non (nomark _)) (pw_or1 (pt_cmpR op_isN (pv 0) pe_non (nomark _))))) (pss_one (ps_ret (pe_and (pe_cmpR op_isN (pv 1) pe_non (nomark _)) (pe_one (pe_cmpR op_isN (pv 0) pe_non (nomark _)))))) pss_nil)
      (pss_cons (ps_if (PW.pt (pw_or (pt_val (b_isi B (pv 1) B.bool PyProof.Rows.boot_bool)) (pw_or1 (pt_val (b_isi B (pv 0) B.bool PyProof.Rows.boot_bool))))) pss_never pss_nil)
      (pss_cons (ps_if (pt_val (b_isi B (pv 1) B.str PyProof.Rows.boot_str)) (pss_one (ps_ret (pe_and (b_isi B (pv 0) B.str PyProof.Rows.boot_str) (pe_one (pe_cmpR op_eq (pv 0) (pv 1) (nomark _)))))) pss_nil)
      (pss_one (ps_ret (pe_and (b_isi B (pv 0) B.int PyProof.Rows.boot_int) (pe_one (pe_cmpR op_eq (pv 0) (pv 1) (nomark _))))))))), ?_⟩
      walk_at "rd"
      exact k _ Stp.refl
    · refine ⟨_, pss_cons (ps_if (PW.pt (pw_or (pt_val (b_isi B (pv 1) B.tuple PyProof.Rows.boot_tuple)) (pw_or1 (pt_val (b_isi B (pv 1) B.list PyProof.Rows.boot_list))))) pss_never pss_nil)
      (pss_cons (ps_if (PW.pt (pw_or (pt_cmpR op_isN (pv 1) pe_non (nomark _)) (pw_or1 (pt_cmpR op_isN (pv 0) pe_non (nomark _))))) (pss_one (ps_ret (pe_and (pe_cmpR op_isN (pv 1) pe_non (nomark _)) (pe_one (pe_cmpR op_isN (pv 0) pe_non (nomark _)))))) pss_nil)
      (pss_cons (ps_if (PW.pt (pw_or (pt_val (b_isi B (pv 1) B.bool PyProof.Rows.boot_bool)) (pw_or1 (pt_val (b_isi B (pv 0) B.bool PyProof.Rows.boot_bool))))) pss_never pss_nil)
      (pss_cons (ps_if (pt_val (b_isi B (pv 1) B.str PyProof.Rows.boot_str)) (pss_one (ps_ret (pe_and (b_isi B (pv 0) B.str PyProof.Rows.boot_str) (pe_one (pe_cmpR op_eq (pv 0) (pv 1) (nomark _)))))) pss_nil)
      (pss_one (ps_ret (pe_and (b_isi B (pv 0) B.int PyProof.Rows.boot_int) (pe_one (pe_cmpR op_eq (pv 0) (pv 1) (nomark _))))))))), ?_⟩
      walk_at "rd"
      refine isi_strA (b := false) (by decide +kernel) ?_
      walk_at "rd"
      refine isi_strA (b := false) (by decide +kernel) ?_
      walk_at "rd"
      refine isi_strA (b := false) (by decide +kernel) ?_
      walk_at "rd"
      refine isi_strA (b := false) (by decide +kernel) ?_
      walk_at "rd"
      refine isi_strA (b := true) (by decide +kernel) ?_
      walk_at "rd"
      refine isi_strA (b := true) (by decide +kernel) ?_
      walk_at "rd"
      exact k _ Stp.refl
    · refine ⟨_, pss_cons (ps_if (PW.pt (pw_or (pt_val (b_isi B (pv 1) B.tuple PyProof.Rows.boot_tuple)) (pw_or1 (pt_val (b_isi B (pv 1) B.list PyProof.Rows.boot_list))))) pss_never pss_nil)
      (pss_cons (ps_if (PW.pt (pw_or (pt_cmpR op_isN (pv 1) pe_non (nomark _)) (pw_or1 (pt_cmpR op_isN (pv 0) pe_non (nomark _))))) (pss_one (ps_ret (pe_and (pe_cmpR op_isN (pv 1) pe_non (nomark _)) (pe_one (pe_cmpR op_isN (pv 0) pe_non (nomark _)))))) pss_nil)
      (pss_cons (ps_if (PW.pt (pw_or (pt_val (b_isi B (pv 1) B.bool PyProof.Rows.boot_bool)) (pw_or1 (pt_val (b_isi B (pv 0) B.bool PyProof.Rows.boot_bool))))) pss_never pss_nil)
      (pss_cons (ps_if (pt_val (b_isi B (pv 1) B.str PyProof.Rows.boot_str)) (pss_one (ps_ret (pe_and (b_isi B (pv 0) B.str PyProof.Rows.boot_str) (pe_one (pe_cmpR op_eq (pv 0) (pv 1) (nomark _)))))) pss_nil)
      (pss_one (ps_ret (pe_and (b_isi B (pv 0) B.int PyProof.Rows.boot_int) (pe_one (pe_cmpR op_eq (pv 0) (pv 1) (nomark _))))))))), ?_⟩
      walk_at "rd"
      refine isi_nonA (b := false) (by decide +kernel) ?_
      walk_at "rd"
      refine isi_nonA (b := false) (by decide +kernel) ?_
      walk_at "rd"
      exact k _ Stp.refl
  | n + 1 => by
    have G : OwnF P w K mg base "_law_alike" (n + 1) ["_law_found", "_law_due"] (sp_eq K n) := ⟨f, fd, ok_alike_deep F B hm hk hb n, hm, hk, hb⟩
    refine F.ok sc_law_alike (fun vs H Q E h => ?_) (fun cdv A outer s H vs Q E hr h => ?_)
    · obtain ⟨v, w', rfl, _⟩ := h
      rfl
    have hu64 : (A.deeper (PyProof.Rows.envOfC "_law_alike" (defScope s_law_alike) s.heap.objs.size f cdv)).units + 64 < cLine := by
      have := hr.un
      omega
    obtain ⟨v, w', rfl, h, k⟩ := h
    rcases h with h | ⟨a, b, xs, ys, rfl, rfl, ⟨ha, hb⟩ | ⟨ha, hb⟩, hlen, hp⟩
    rotate_left
    · refine ⟨_, pss_cons (ps_if (PW.pt (pw_or (pt_val (b_isi B (pv 1) B.tuple PyProof.Rows.boot_tuple)) (pw_or1 (pt_val (b_isi B (pv 1) B.list PyProof.Rows.boot_list))))) (pss_cons (ps_if (PW.pt (pw_or (pt_cmpR op_ne (b_isi B (pv 0) B.tuple PyProof.Rows.boot_tuple) (b_isi B (pv 1) B.tuple PyProof.Rows.boot_tuple) (nomark _)) (pw_or1 (pt_not (pt_val (pe_callB call_isiT (by rfl) B.isi PyProof.Rows.boot_isinstance (pa_cons (pv 0) (pa_cons (pe_tup (pa_cons (pe_bltn (v := .ty "tuple") (by rfl) B.tuple PyProof.Rows.boot_tuple rfl) (pa_cons (pe_bltn (v := .ty "list") (by rfl) B.list PyProof.Rows.boot_list rfl) pa_nil))) pa_nil)))))))) pss_never pss_nil)
          (pss_cons (ps_if (pt_cmpR op_ne (pe_callB call_len_seq (by rfl) B.len PySem.boot_len (pa_cons (pv 0) pa_nil)) (pe_callB call_len_seq (by rfl) B.len PySem.boot_len (pa_cons (pv 1) pa_nil)) (nomark _)) pss_never pss_nil)
          (pss_one (ps_ret (pe_cmpR (op_eqD hu64) (pe_lc (own := [("_law_k", 2)]) (te := tVar 2) (tt := tNot (tB (tCall (sp_eq K n) [] E0 (tCons (tOp (rIxT K) (tVar 0) (tVar 2)) (tCons (tOp (rIxT K) (tVar 1) (tVar 2)) tNil)))))
              rfl sc_law_alike.nd (pi_range1 (by rfl) B.range (pa_cons (pe_callB call_len_seq (by rfl) B.len PySem.boot_len (pa_cons (pv 1) pa_nil)) pa_nil)) (blkOk_by (N := ["_law_found", "_law_due", "_law_k"]) (sc := defScope s_law_alike) (by decide +kernel))
              (fun _ _ _ _ _ => pg_name (i := 2) sc_law_alike.nd rfl (.inl rfl)) (fun _ _ _ _ _ => pts_one (pt_not (pt_val (p_call G hr (pa_cons (pe_ix ix_tup (pv 0) (pv 2) (fun _ _ => rfl)) (pa_cons (pe_ix ix_tup (pv 1) (pv 2) (fun _ _ => rfl)) pa_nil)))))) (fun _ _ _ _ _ => pv 2)) (pe_lst pa_nil) (nomark _)))))) pss_nil)
        pss_never, ?_⟩
      walk_at "rd"
      refine isi_tupA hb (b := true) (by decide +kernel) ?_
      walk_at "rd"
      refine isi_tupA ha (b := true) (by decide +kernel) (isi_tupA hb (b := true) (by decide +kernel) ?_)
      walk_at "rd"
      intro T hT
      have s1 := Stp.new (o := .tup [.ty "tuple", .ty "list"]) hT
      refine ⟨.ref a, T, _, _, _, true, rfl, upd_same, .cons (.ty _) (.cons (.ty _) .nil), tyx_tup (ha.st s1), kitAny_cons (b := true) (kit_ty (by decide +kernel)) (fun z => nomatch z) (fun _ => rfl), ?_⟩
      have ha1 := ha.st s1
      have hb1 := hb.st s1
      have hp1 := EqS.st hp s1
      generalize upd H T (.tup [.ty "tuple", .ty "list"]) = H1 at *
      walk_at "rd"
      refine ⟨_, .inr ha1.sq, _, .inr hb1.sq, ?_⟩
      walk_at "rd"
      have hl := hp.length
      rw [decide_eq_true (show ((xs.length : Nat) : Int) = ((ys.length : Nat) : Int) by rw [hl])]
      refine iteF ?_
      refine ⟨_, rfl, b, rfl, _, .inr hb1.sq, _, rfl, by omega, by omega, ?_⟩
      intro D hD
      refine lc_range (lo := 0) (n := ((ys.length : Nat) : Int).toNat) (fun i H' => Stp [] H1 H' ∧ H' D = some (.lst [])) ⟨Stp.new hD, upd_same⟩ (fun i H' hi h => ?_) (fun H' h => ?_)
      · obtain ⟨s2, hl2⟩ := h
        have hi' : i < ys.length := by omega
        have ha2 := ha1.st s2
        have hb2 := hb1.st s2
        obtain ⟨x, y, hx, hy, hxy⟩ := pr_get (EqS.st hp1 s2) i (by omega) hi'
        refine ⟨wipe1, ⟨_, rfl, _, rfl, a, _, _, _, rfl, rfl, ha2.sq, at_pos hx, _, rfl, _, rfl, b, _, _, _, rfl, rfl, hb2.sq, at_pos hy, ?_⟩⟩
        refine ⟨x, y, rfl, hxy, fun H3 s3 => ⟨_, rfl, iteF ?_⟩⟩
        exact ⟨s2.trans s3, s3.keep _ _ hl2 (by simp)⟩
      · obtain ⟨s2, hl2⟩ := h
        refine ⟨Nat.zero_le _, fun p hp => ?_⟩
        have s3 := Stp.new (o := .lst []) hp
        refine ⟨_, _, .lst (.inl (.inl (s3.keep _ _ hl2 (by simp)))) .nil, .lst (.inl (.inl upd_same)) .nil, rfl, rfl, ?_⟩
        exact k _ (s1.trans (s2.trans s3))
    · refine ⟨_, pss_cons (ps_if (PW.pt (pw_or (pt_val (b_isi B (pv 1) B.tuple PyProof.Rows.boot_tuple)) (pw_or1 (pt_val (b_isi B (pv 1) B.list PyProof.Rows.boot_list))))) (pss_cons (ps_if (PW.pt (pw_or (pt_cmpR op_ne (b_isi B (pv 0) B.tuple PyProof.Rows.boot_tuple) (b_isi B (pv 1) B.tuple PyProof.Rows.boot_tuple) (nomark _)) (pw_or1 (pt_not (pt_val (pe_callB call_isiT (by rfl) B.isi PyProof.Rows.boot_isinstance (pa_cons (pv 0) (pa_cons (pe_tup (pa_cons (pe_bltn (v := .ty "tuple") (by rfl) B.tuple PyProof.Rows.boot_tuple rfl) (pa_cons (pe_bltn (v := .ty "list") (by rfl) B.list PyProof.Rows.boot_list rfl) pa_nil))) pa_nil)))))))) pss_never pss_nil)
          (pss_cons (ps_if (pt_cmpR op_ne (pe_callB call_len_seq (by rfl) B.len PySem.boot_len (pa_cons (pv 0) pa_nil)) (pe_callB call_len_seq (by rfl) B.len PySem.boot_len (pa_cons (pv 1) pa_nil)) (nomark _)) pss_never pss_nil)
          (pss_one (ps_ret (pe_cmpR (op_eqD hu64) (pe_lc (own := [("_law_k", 2)]) (te := tVar 2) (tt := tNot (tB (tCall (sp_eq K n) [] E0 (tCons (tOp (rIxL K) (tVar 0) (tVar 2)) (tCons (tOp (rIxL K) (tVar 1) (tVar 2)) tNil)))))
              rfl sc_law_alike.nd (pi_range1 (by rfl) B.range (pa_cons (pe_callB call_len_seq (by rfl) B.len PySem.boot_len (pa_cons (pv 1) pa_nil)) pa_nil)) (blkOk_by (N := ["_law_found", "_law_due", "_law_k"]) (sc := defScope s_law_alike) (by decide +kernel))
              (fun _ _ _ _ _ => pg_name (i := 2) sc_law_alike.nd rfl (.inl rfl)) (fun _ _ _ _ _ => pts_one (pt_not (pt_val (p_call G hr (pa_cons (pe_ix ix_list (pv 0) (pv 2) (fun _ _ => rfl)) (pa_cons (pe_ix ix_list (pv 1) (pv 2) (fun _ _ => rfl)) pa_nil)))))) (fun _ _ _ _ _ => pv 2)) (pe_lst pa_nil) (nomark _)))))) pss_nil)
        pss_never, ?_⟩
      walk_at "rd"
      refine isi_lstA hb (b := false) (by decide +kernel) ?_
      walk_at "rd"
      refine isi_lstA hb (b := true) (by decide +kernel) ?_
      walk_at "rd"
      refine isi_lstA ha (b := false) (by decide +kernel) (isi_lstA hb (b := false) (by decide +kernel) ?_)
      walk_at "rd"
      intro T hT
      have s1 := Stp.new (o := .tup [.ty "tuple", .ty "list"]) hT
      have ha1 := s1.keep _ _ ha (by simp)
      have hb1 := s1.keep _ _ hb (by simp)
      have hp1 := EqS.st hp s1
      refine ⟨.ref a, T, _, _, _, true, rfl, upd_same, .cons (.ty _) (.cons (.ty _) .nil), .base (.lst ha1), kitAny_cons (b := false) (kit_ty (by decide +kernel)) (fun _ => kitAny_cons (b := true) (kit_ty (by decide +kernel)) (fun z => nomatch z) (fun _ => rfl)) (fun z => nomatch z), ?_⟩
      generalize upd H T (.tup [.ty "tuple", .ty "list"]) = H1 at *
      walk_at "rd"
      refine ⟨_, .inl (.inl (.inl ha1)), _, .inl (.inl (.inl hb1)), ?_⟩
      walk_at "rd"
      have hl := hp.length
      rw [decide_eq_true (show ((xs.length : Nat) : Int) = ((ys.length : Nat) : Int) by rw [hl])]
      refine iteF ?_
      refine ⟨_, rfl, b, rfl, _, .inl (.inl (.inl hb1)), _, rfl, by omega, by omega, ?_⟩
      intro D hD
      refine lc_range (lo := 0) (n := ((ys.length : Nat) : Int).toNat) (fun i H' => Stp [] H1 H' ∧ H' D = some (.lst [])) ⟨Stp.new hD, upd_same⟩ (fun i H' hi h => ?_) (fun H' h => ?_)
      · obtain ⟨s2, hl2⟩ := h
        have hi' : i < ys.length := by omega
        have ha2 := s2.keep _ _ ha1 (by simp)
        have hb2 := s2.keep _ _ hb1 (by simp)
        obtain ⟨x, y, hx, hy, hxy⟩ := pr_get (EqS.st hp1 s2) i (by omega) hi'
        refine ⟨wipe1, ⟨_, rfl, _, rfl, a, _, _, _, rfl, rfl, (.inl (.inl ha2)), at_pos hx, _, rfl, _, rfl, b, _, _, _, rfl, rfl, (.inl (.inl hb2)), at_pos hy, ?_⟩⟩
        refine ⟨x, y, rfl, hxy, fun H3 s3 => ⟨_, rfl, iteF ?_⟩⟩
        exact ⟨s2.trans s3, s3.keep _ _ hl2 (by simp)⟩
      · obtain ⟨s2, hl2⟩ := h
        refine ⟨Nat.zero_le _, fun p hp => ?_⟩
        have s3 := Stp.new (o := .lst []) hp
        refine ⟨_, _, .lst (.inl (.inl (s3.keep _ _ hl2 (by simp)))) .nil, .lst (.inl (.inl upd_same)) .nil, rfl, rfl, ?_⟩
        exact k _ (s1.trans (s2.trans s3))
    rcases h with ⟨i, rfl, rfl⟩ | ⟨x, hx, rfl, rfl⟩ | ⟨rfl, rfl⟩
    · refine ⟨_, pss_cons (ps_if (PW.pt (pw_or (pt_val (b_isi B (pv 1) B.tuple PyProof.Rows.boot_tuple)) (pw_or1 (pt_val (b_isi B (pv 1) B.list PyProof.Rows.boot_list))))) pss_never pss_nil)
      (pss_cons (ps_if (PW.pt (pw_or (pt_cmpR op_isN (pv 1) pe_non (nomark _)) (pw_or1 (pt_cmpR op_isN (pv 0) pe_non (nomark _))))) (pss_one (ps_ret (pe_and (pe_cmpR op_isN (pv 1) pe_non (nomark _)) (pe_one (pe_cmpR op_isN (pv 0) pe_non (nomark _)))))) pss_nil)
      (pss_cons (ps_if (PW.pt (pw_or (pt_val (b_isi B (pv 1) B.bool PyProof.Rows.boot_bool)) (pw_or1 (pt_val (b_isi B (pv 0) B.bool PyProof.Rows.boot_bool))))) pss_never pss_nil)
      (pss_cons (ps_if (pt_val (b_isi B (pv 1) B.str PyProof.Rows.boot_str)) (pss_one (ps_ret (pe_and (b_isi B (pv 0) B.str PyProof.Rows.boot_str) (pe_one (pe_cmpR op_eq (pv 0) (pv 1) (nomark _)))))) pss_nil)
      (pss_one (ps_ret (pe_and (b_isi B (pv 0) B.int PyProof.Rows.boot_int) (pe_one (pe_cmpR op_eq (pv 0) (pv 1) (nomark _))))))))), ?_⟩
      walk_at "rd"
      exact k _ Stp.refl
    · refine ⟨_, pss_cons (ps_if (PW.pt (pw_or (pt_val (b_isi B (pv 1) B.tuple PyProof.Rows.boot_tuple)) (pw_or1 (pt_val (b_isi B (pv 1) B.list PyProof.Rows.boot_list))))) pss_never pss_nil)
      (pss_cons (ps_if (PW.pt (pw_or (pt_cmpR op_isN (pv 1) pe_non (nomark _)) (pw_or1 (pt_cmpR op_isN (pv 0) pe_non (nomark _))))) (pss_one (ps_ret (pe_and (pe_cmpR op_isN (pv 1) pe_non (nomark _)) (pe_one (pe_cmpR op_isN (pv 0) pe_non (nomark _)))))) pss_nil)
      (pss_cons (ps_if (PW.pt (pw_or (pt_val (b_isi B (pv 1) B.bool PyProof.Rows.boot_bool)) (pw_or1 (pt_val (b_isi B (pv 0) B.bool PyProof.Rows.boot_bool))))) pss_never pss_nil)
      (pss_cons (ps_if (pt_val (b_isi B (pv 1) B.str PyProof.Rows.boot_str)) (pss_one (ps_ret (pe_and (b_isi B (pv 0) B.str PyProof.Rows.boot_str) (pe_one (pe_cmpR op_eq (pv 0) (pv 1) (nomark _)))))) pss_nil)
      (pss_one (ps_ret (pe_and (b_isi B (pv 0) B.int PyProof.Rows.boot_int) (pe_one (pe_cmpR op_eq (pv 0) (pv 1) (nomark _))))))))), ?_⟩
      walk_at "rd"
      refine isi_strA (b := false) (by decide +kernel) ?_
      walk_at "rd"
      refine isi_strA (b := false) (by decide +kernel) ?_
      walk_at "rd"
      refine isi_strA (b := false) (by decide +kernel) ?_
      walk_at "rd"
      refine isi_strA (b := false) (by decide +kernel) ?_
      walk_at "rd"
      refine isi_strA (b := true) (by decide +kernel) ?_
      walk_at "rd"
      refine isi_strA (b := true) (by decide +kernel) ?_
      walk_at "rd"
      exact k _ Stp.refl
    · refine ⟨_, pss_cons (ps_if (PW.pt (pw_or (pt_val (b_isi B (pv 1) B.tuple PyProof.Rows.boot_tuple)) (pw_or1 (pt_val (b_isi B (pv 1) B.list PyProof.Rows.boot_list))))) pss_never pss_nil)
      (pss_cons (ps_if (PW.pt (pw_or (pt_cmpR op_isN (pv 1) pe_non (nomark _)) (pw_or1 (pt_cmpR op_isN (pv 0) pe_non (nomark _))))) (pss_one (ps_ret (pe_and (pe_cmpR op_isN (pv 1) pe_non (nomark _)) (pe_one (pe_cmpR op_isN (pv 0) pe_non (nomark _)))))) pss_nil)
      (pss_cons (ps_if (PW.pt (pw_or (pt_val (b_isi B (pv 1) B.bool PyProof.Rows.boot_bool)) (pw_or1 (pt_val (b_isi B (pv 0) B.bool PyProof.Rows.boot_bool))))) pss_never pss_nil)
      (pss_cons (ps_if (pt_val (b_isi B (pv 1) B.str PyProof.Rows.boot_str)) (pss_one (ps_ret (pe_and (b_isi B (pv 0) B.str PyProof.Rows.boot_str) (pe_one (pe_cmpR op_eq (pv 0) (pv 1) (nomark _)))))) pss_nil)
      (pss_one (ps_ret (pe_and (b_isi B (pv 0) B.int PyProof.Rows.boot_int) (pe_one (pe_cmpR op_eq (pv 0) (pv 1) (nomark _))))))))), ?_⟩
      walk_at "rd"
      refine isi_nonA (b := false) (by decide +kernel) ?_
      walk_at "rd"
      refine isi_nonA (b := false) (by decide +kernel) ?_
      walk_at "rd"
      exact k _ Stp.refl
/-! ### what == and != tell of such -/
theorem EqB.dp {H : Hp} {v w' : V} (h : EqB v w') : ∃ d, Dp K H v d ∧ Dp K H w' d ∧ d.canLay0 = true ∧ d.depth ≤ 1 ∧ PyData.eqv d d = true := by
  rcases h with ⟨i, rfl, rfl⟩ | ⟨x, hx, rfl, rfl⟩ | ⟨rfl, rfl⟩
  · exact ⟨_, .int i, .int i, by simp [PyData.canLay0], by simp [PyData.depth], by simp [PyData.eqv]⟩
  · exact ⟨_, .str x, .str x, by simpa [PyData.canLay0] using hx, by simp [PyData.depth], by simp [PyData.eqv]⟩
  · exact ⟨_, .non, .non, by simp [PyData.canLay0], by simp [PyData.depth], by simp [PyData.eqv]⟩
theorem all_dp {H : Hp} {n : Nat} (ih : ∀ v w', EqT K H n v w' → ∃ d, Dp K H v d ∧ Dp K H w' d ∧ d.canLay0 = true ∧ d.depth ≤ n + 1 ∧ PyData.eqv d d = true) : ∀ {xs ys : List V}, Paired (EqT K H n) xs ys →
    ∃ ds, DpAll K H xs ds ∧ DpAll K H ys ds ∧ PyData.canLayAll0 ds = true ∧ PyData.depthAll ds ≤ n + 1 ∧ PyData.eqvAll ds ds = true
  | _, _, .nil => ⟨[], .nil, .nil, by simp [PyData.canLayAll0], by simp [PyData.depthAll], by simp [PyData.eqvAll]⟩
  | _, _, .cons h r => by
    obtain ⟨d, a1, a2, a3, a4, a5⟩ := ih _ _ h
    obtain ⟨ds, b1, b2, b3, b4, b5⟩ := all_dp ih r
    exact ⟨d :: ds, .cons a1 b1, .cons a2 b2, by simp [PyData.canLayAll0, a3, b3], by simp only [PyData.depthAll]; omega, by simp [PyData.eqvAll, a5, b5]⟩
theorem EqT.dp {H : Hp} : ∀ (n : Nat) (v w' : V), EqT K H n v w' → ∃ d, Dp K H v d ∧ Dp K H w' d ∧ d.canLay0 = true ∧ d.depth ≤ n + 1 ∧ PyData.eqv d d = true
  | 0, v, w', h => EqB.dp h
  | n + 1, v, w', h => by
    rcases h with h | ⟨a, b, xs, ys, rfl, rfl, h, _, hp⟩
    · obtain ⟨d, a1, a2, a3, a4, a5⟩ := EqB.dp (K := K) (H := H) h
      exact ⟨d, a1, a2, a3, by omega, a5⟩
    · obtain ⟨ds, b1, b2, b3, b4, b5⟩ := all_dp (EqT.dp n) hp
      rcases h with ⟨h1, h2⟩ | ⟨h1, h2⟩
      · exact ⟨.tuple ds, .tup h1.sq b1, .tup h2.sq b2, by simp [PyData.canLay0, b3], by simp only [PyData.depth]; omega, by simp [PyData.eqv, b5]⟩
      · exact ⟨.list ds, .lst (.inl (.inl h1)) b1, .lst (.inl (.inl h2)) b2, by simp [PyData.canLay0, b3], by simp only [PyData.depth]; omega, by simp [PyData.eqv, b5]⟩
theorem eq_T {H : Hp} {n : Nat} {v w' : V} {Q : VK} (h : EqT K H n v w') (hn : n ≤ 60) (k : Q (.bl true) H) : rEqD K v w' H Q := by
  obtain ⟨d, a1, a2, a3, a4, a5⟩ := EqT.dp n _ _ h
  have hs : SeqAt.shaped d = true := by simp [SeqAt.shaped, a3]; omega
  exact ⟨d, d, a1, a2, hs, hs, by rw [a5]; exact k⟩
theorem ne_T {H : Hp} {n : Nat} {v w' : V} {Q : VK} (h : EqT K H n v w') (hn : n ≤ 60) (k : Q (.bl false) H) : rNeD K v w' H Q := by
  obtain ⟨d, a1, a2, a3, a4, a5⟩ := EqT.dp n _ _ h
  have hs : SeqAt.shaped d = true := by simp [SeqAt.shaped, a3]; omega
  exact ⟨d, d, a1, a2, hs, hs, by rw [a5]; exact k⟩
/-- fractions, pairs -/
theorem EqT.q {H : Hp} {v w' : V} {q : Rat} (h : IsQ K H v q) (g : IsQ K H w' q) : EqT K H 1 v w' := by
  obtain ⟨a, rfl, ha⟩ := h
  obtain ⟨b, rfl, hb⟩ := g
  exact .inr ⟨a, b, _, _, rfl, rfl, .inl ⟨ha, hb⟩, by show 2 ≤ 100000; decide, .cons (.inl ⟨_, rfl, rfl⟩) (.cons (.inl ⟨_, rfl, rfl⟩) .nil)⟩
end
end Mx

namespace Mx
open PySem L2
theorem row_mv {K : PySem.W.Frag} {H0 H H' : Hp} {F : List Addr} {r sc : Addr} {ns : List Int} (h0 : RowAt K H0 r sc ns) (h : RowAt K H r sc ns) (s : Stp F H H') (hr : r ∉ F) (s0 : Stp [r] H0 H') : RowAt K H' r sc ns := by
  obtain ⟨_, _, _, _, _, _, hs, hn⟩ := h0
  obtain ⟨pos, mix, p0, m0, m1, hrr, _, _⟩ := h
  exact ⟨pos, mix, p0, m0, m1, s.keep _ _ hrr hr, seq_or hs s0 hn, hn⟩
theorem dpAll_len {K : PySem.W.Frag} {H : Hp} : ∀ {vs : List V} {ds : List PyData}, DpAll K H vs ds → vs.length = ds.length
  | _, _, .nil => rfl
  | _, _, .cons _ r => by rw [List.length_cons, List.length_cons, dpAll_len r]
theorem ne_nilL {K : PySem.W.Frag} {H : Hp} {a b : Addr} {vs : List V} {n : Nat} {Q : VK} (ha : H a = some (.lst vs)) (hb : H b = some (.lst [])) (h : Paired (EqT K H n) vs vs) (hn : n ≤ 60) (k : Q (.bl (!vs.isEmpty)) H) : rNeD K (.ref a) (.ref b) H Q := by
  obtain ⟨ds, b1, _, b3, b4, _⟩ := all_dp (EqT.dp n) h
  have hs : SeqAt.shaped (.list ds) = true := by
    have : (PyData.list ds).depth ≤ 64 := by simp only [PyData.depth]; omega
    simp [SeqAt.shaped, PyData.canLay0, b3, this]
  refine ⟨.list ds, .list [], .lst (.inl (.inl ha)) b1, .lst (.inl (.inl hb)) .nil, hs, rfl, ?_⟩
  have e : PyData.eqv (.list ds) (.list []) = vs.isEmpty := by
    have := dpAll_len b1
    cases ds with
    | nil => 
      have : vs = [] := List.length_eq_zero_iff.mp this
      rw [this]
      rfl
    | cons d r =>
      cases vs with
      | nil => simp at this
      | cons v t => rfl
  rw [e]
  exact k
theorem ints_refl {K : PySem.W.Frag} {H : Hp} {n : Nat} : ∀ (ns : List Int), Paired (EqT K H n) (ns.map V.int) (ns.map V.int)
  | [] => .nil
  | i :: r => .cons (by cases n with | zero => exact .inl ⟨i, rfl, rfl⟩ | succ n => exact .inl (.inl ⟨i, rfl, rfl⟩)) (ints_refl r)
end Mx

namespace Mx
open PySem L2
set_option hygiene false in
local macro_rules | `(tactic| walk_at "rd") => `(tactic| try simp only [L2.start, List.map_cons, List.map_nil, List.length_cons, List.length_nil, Nat.reduceAdd, Nat.reduceSub, Nat.reduceLT, Nat.reduceLeDiff, List.replicate_succ, List.replicate_zero, List.append_nil, List.nil_append, List.cons_append, List.set_cons_zero, List.set_cons_succ, List.getElem?_cons_zero, List.getElem?_cons_succ,
  Option.some.injEq, List.cons.injEq, and_true, true_and, and_assoc, reduceCtorEq, L2.V.int.injEq, L2.V.ref.injEq, L2.V.bl.injEq, L2.V.str.injEq, L2.V.ty.injEq, L2.HO.ins.injEq, L2.HO.lst.injEq, L2.HO.tup.injEq, L2.HO.dK.injEq, exists_eq_left', exists_eq_left, exists_eq_right, exists_eq', exists_eq, exists_and_left, exists_and_right, reduceIte, Bool.false_eq_true, Bool.not_true, Bool.not_false,
  L2.tSeq, L2.tIfS, L2.tRet, L2.tRetN, L2.tNext, L2.tAsg, L2.gName, L2.tVar, L2.tC, L2.tCons, L2.tNil, L2.tCB, L2.tOp, L2.tUn, L2.tTup, L2.tLst, L2.tB, L2.tOr, L2.tAnd, L2.tNot, L2.tAndV, L2.tOrV, L2.tNotV, L2.tIf, L2.tTest, L2.tChain, L2.rI, L2.rI0, L2.rU, L2.tDrop, L2.tNever, L2.tCall, L2.tMeth, L2.tMake, L2.rGcd, L2.tFld, L2.sFld, L2.sFldAug, Mx.sFldA, Mx.sFldAugA, L2.rAdd, L2.rSub, L2.rEq, L2.rNe, L2.tDGet, L2.tDIn, L2.tDNotIn, L2.sDPut,
  Mx.isi_int_bool, Mx.isi_int_int, Mx.isi_int_tuple, Mx.isi_int_list, Mx.isi_int_str, Mx.scal_int, Mx.scal_str, Mx.scal_bl, Mx.ofString_inj, Mx.ofString_beq, Mx.lk_cons, Mx.pf_nil, Mx.pf_cons, Mx.sz1, Mx.sz2, List.lookup_nil, String.reduceEq, decide_true, decide_false, decide_eq_true_eq, Int.natAbs_natCast, L2.upd_same, L2.upd_upd, L2.cxOf, L2.gCons, L2.gNil, L2.gSub, L2.tPar, L2.tPar3, L2.tAug, L2.tBM])
set_option hygiene false in
local macro_rules | `(tactic| walk_at "rds") => `(tactic| try simp only [L2.start, List.map_cons, List.map_nil, List.length_cons, List.length_nil, Nat.reduceAdd, Nat.reduceSub, Nat.reduceLT, Nat.reduceLeDiff, List.replicate_succ, List.replicate_zero, List.append_nil, List.nil_append, List.cons_append, List.set_cons_zero, List.set_cons_succ, List.getElem?_cons_zero, List.getElem?_cons_succ,
  Option.some.injEq, List.cons.injEq, and_true, true_and, and_assoc, reduceCtorEq, L2.V.int.injEq, L2.V.ref.injEq, L2.V.bl.injEq, L2.V.str.injEq, L2.V.ty.injEq, L2.HO.ins.injEq, L2.HO.lst.injEq, L2.HO.tup.injEq, L2.HO.dK.injEq, exists_eq_left', exists_eq_left, exists_eq_right, exists_eq', exists_eq, exists_and_left, exists_and_right, reduceIte, Bool.false_eq_true, Bool.not_true, Bool.not_false,
  L2.tSeq, L2.tIfS, L2.tRet, L2.tRetN, L2.tNext, L2.tAsg, L2.gName, L2.tVar, L2.tC, L2.tCons, L2.tNil, L2.tCB, L2.tOp, L2.tUn, L2.tTup, L2.tLst, L2.tB, L2.tOr, L2.tAnd, L2.tNot, L2.tAndV, L2.tOrV, L2.tNotV, L2.tIf, L2.tTest, L2.tChain, L2.rI, L2.rI0, L2.rU, L2.tDrop, L2.tNever, L2.tCall, L2.tMeth, L2.tMake, L2.rGcd, L2.tFld, L2.sFld, L2.sFldAug, Mx.sFldA, Mx.sFldAugA, L2.rAdd, L2.rSub, L2.rEq, L2.rNe, L2.tDGet, L2.tDIn, L2.tDNotIn, L2.sDPut,
  Mx.isi_int_bool, Mx.isi_int_int, Mx.isi_int_tuple, Mx.isi_int_list, Mx.isi_int_str, Mx.scal_int, Mx.scal_str, Mx.scal_bl, Mx.ofString_inj, Mx.ofString_beq, Mx.lk_cons, Mx.pf_nil, Mx.pf_cons, Mx.sz1, Mx.sz2, List.lookup_nil, String.reduceEq, decide_true, decide_false, decide_eq_true_eq, Int.natAbs_natCast, L2.upd_same, L2.upd_upd, L2.cxOf, L2.gCons, L2.gNil, L2.gSub, L2.tPar, L2.tPar3, L2.tAug, L2.tBM, *])

section
variable {P : Program} {w : World} {K : PySem.W.Frag} {mg : Str → Option Value} {base : Heap}
def lastN (n pn pb : Int) : Int := if restN n pn pb = 0 then lowN n pn pb else lowN n pn pb + 1
theorem at_last {n pn pb : Int} : atI ((wantN n pn pb).map V.int) (-1) = some (.int (lastN n pn pb)) := by
  unfold wantN lastN
  split <;> rfl
/-! ### arrivals -/
structure Arr (arr : List Int) : Prop where
  len : arr.length ≤ 30
  inb : ∀ x ∈ arr, 0 ≤ x ∧ x ≤ 9999
def sp_check_arrivals (K : PySem.W.Frag) : Sp := fun vs H Q _ => ∃ (a : Addr) (arr : List Int), vs = [.ref a] ∧ SqL K H a (arr.map V.int) ∧ Arr arr ∧ ∀ H', Stp [] H H' → Q .non H'
theorem sc_check_arrivals : FnScope ["arrivals", "number", "beat"] ["arrivals"] (defScope s_check_arrivals) := ⟨rfl, rfl, rfl, by decide +kernel, rfl, by decide +kernel, by decide +kernel⟩
theorem ok_check_arrivals {f : Addr} {fd : FuncData} (F : Fun K "check_arrivals" "check_arrivals" s_check_arrivals f fd) (B : Blt mg) {tm : Tok} (hM : mg "MOST_ARRIVALS" = some (.int 30 tm)) (G : OwnF P w K mg base "is_whole" 1 ["number", "low", "high"] sp_is_whole) : FnOk P w K mg base CX0 2 f fd ["arrivals"] (sp_check_arrivals K) := by
  refine F.ok sc_check_arrivals (fun vs H Q E h => ?_) (fun cdv A outer s H vs Q E hr h => ?_)
  · obtain ⟨a, arr, rfl, _⟩ := h
    rfl
  · obtain ⟨a, arr, rfl, ha, hA, k⟩ := h
    have nd := sc_check_arrivals.nd
    refine ⟨_, (pss_one (ps_for PassesOwn.never rfl (pi_enum (by rfl) B.enumerate (pa_cons (pv 0) pa_nil)) (pg_tup rfl (pgs_cons (pg_name (i := 1) nd rfl (.inl rfl)) (pgs_cons (pg_name (i := 2) nd rfl (.inl rfl)) pgs_nil))) (pss_one (ps_if (PW.pt (pw_or (pt_cmpR op_ge (pv 1) (pe_glob (v := .int 30) (by rfl) hM ⟨_, rfl⟩) (nomark _)) (pw_or1 (pt_not (pt_val (p_call G hr (pa_cons (pv 2) (pa_cons pe_int (pa_cons pe_int pa_nil))))))))) (pss_one ps_never) pss_nil)))), ?_⟩
    refine ⟨_, rfl, a, _, rfl, ha, for_enum (K := K) (a := a) (xs := arr.map V.int) (fun i σ H2 => ∃ v1 v2, σ = [some (.ref a), v1, v2] ∧ Stp [] H H2) ⟨_, _, rfl, Stp.refl⟩ (fun i σ H2 _ h => ?_) (fun i x σ H2 T hi h hT => ?_) (fun σ H2 h => ?_)⟩
    · obtain ⟨_, _, _, s2⟩ := h
      exact seq_st ha s2 (by simp)
    · obtain ⟨v1, v2, rfl, s2⟩ := h
      rw [List.getElem?_map] at hi
      obtain ⟨n, hn, rfl⟩ := Option.map_eq_some_iff.mp hi
      have hb := hA.inb n (List.mem_of_getElem? hn)
      have hil := (List.getElem?_eq_some_iff.mp hn).1
      have hl := hA.len
      have s3 := Stp.new (o := .tup [.int (i : Nat), .int n]) hT
      refine ⟨T, _, rfl, .inl (.inl upd_same), rfl, ?_⟩
      walk_at "rd"
      rw [if_neg (show ¬ (30 : Int) ≤ (i : Int) by omega)]
      refine ⟨n, 0, 9999, rfl, ?_⟩
      rw [decide_eq_true (show 0 ≤ n ∧ n ≤ 9999 from hb)]
      refine ⟨_, rfl, iteF ?_⟩
      exact s2.trans s3
    · obtain ⟨v1, v2, rfl, s2⟩ := h
      exact k H2 s2
/-! ### what is missed -/
def lateN (arr : List Int) (pn pb many wt p : Int) : Bool := (wantN p pn pb).any fun L => decide (wt + p < arr.getD (L / many).toNat 0)
def judN (arr : List Int) (pn pb many wt : Int) (T : Nat) : List Int := ((List.range T).filter fun p : Nat => lateN arr pn pb many wt p).map fun p : Nat => wt + (p : Int)
theorem judN_succ (arr : List Int) (pn pb many wt : Int) (T : Nat) : judN arr pn pb many wt (T + 1) = judN arr pn pb many wt T ++ if lateN arr pn pb many wt T then [wt + (T : Int)] else [] := by
  unfold judN
  rw [List.range_succ, List.filter_append, List.map_append]
  congr 1
  rw [List.filter_cons, List.filter_nil]
  split <;> rfl
theorem judN_len (arr : List Int) (pn pb many wt : Int) (T : Nat) : (judN arr pn pb many wt T).length ≤ T := by
  unfold judN
  rw [List.length_map]
  exact Nat.le_trans (List.length_filter_le _ _) (by rw [List.length_range]; exact Nat.le_refl _)
theorem last_far {pn pb : Int} (hn : 1 ≤ pn ∧ pn ≤ 8) (hb : 1 ≤ pb ∧ pb ≤ 8) {n : Int} (h0 : 0 ≤ n) : n ≤ 8 * lastN n pn pb ∧ 0 ≤ lastN n pn pb ∧ 0 ≤ lowN n pn pb ∧ lowN n pn pb ≤ lastN n pn pb := by
  unfold lastN restN lowN
  have h1 : n * 1 ≤ n * pn := Int.mul_le_mul_of_nonneg_left hn.1 h0
  generalize n * pn = X at *
  have : pb = 1 ∨ pb = 2 ∨ pb = 3 ∨ pb = 4 ∨ pb = 5 ∨ pb = 6 ∨ pb = 7 ∨ pb = 8 := by omega
  rcases this with e | e | e | e | e | e | e | e <;> subst e <;> (split <;> omega)
theorem want_mem {n pn pb L : Int} (h : L ∈ wantN n pn pb) : L = lowN n pn pb ∨ L = lastN n pn pb := by
  unfold wantN at h
  unfold lastN
  split at h
  · exact .inl (List.mem_singleton.mp h)
  · rename_i e
    simp only [List.mem_cons, List.not_mem_nil, or_false] at h
    rw [if_neg e]
    exact h
theorem at_arr {arr : List Int} {i : Int} (h0 : 0 ≤ i) (h1 : i < (arr.length : Int)) : atI (arr.map V.int) i = some (.int (arr.getD i.toNat 0)) := by
  have hl : i.toNat < arr.length := by omega
  unfold atI ixN
  rw [if_pos h0, List.length_map, if_pos h1]
  show (arr.map V.int)[i.toNat]? = _
  rw [List.getElem?_map, List.getElem?_eq_getElem hl]
  simp [List.getD, List.getElem?_eq_getElem hl]
abbrev NJ : List Str := ["pace", "wait", "many", "arrivals", "missed", "passed", "places", "beat", "place"]
def sp_judged (K : PySem.W.Frag) : Sp := fun vs H Q _ => ∃ (tp a : Addr) (pn pb wt many : Int) (arr : List Int), vs = [.ref tp, .int wt, .int many, .ref a] ∧ H tp = some (.tup [.int pn, .int pb]) ∧ SqL K H a (arr.map V.int) ∧ (1 ≤ pn ∧ pn ≤ 8) ∧ (1 ≤ pb ∧ pb ≤ 8) ∧ (0 ≤ wt ∧ wt ≤ 64) ∧ (1 ≤ many ∧ many ≤ 32) ∧ Arr arr ∧
  ∀ (T : Nat) (m : Addr) H', H m = none → Stp [] H H' → H' m = some (.lst ((judN arr pn pb many wt T).map V.int)) → T ≤ 9000 → (∀ p : Nat, p < T → lastN p pn pb < many * (arr.length : Int)) → many * (arr.length : Int) ≤ lastN T pn pb → Q (.ref m) H'
theorem sc_judged : FnScope NJ ["pace", "wait", "many", "arrivals"] (defScope s_judged) := ⟨rfl, rfl, rfl, by decide +kernel, rfl, by decide +kernel, by decide +kernel⟩
theorem ok_judged {f : Addr} {fd : FuncData} (F : Fun K "judged" "judged" s_judged f fd) (B : Blt mg) (G1 : OwnF P w K mg base "check_pace" 2 ["pace"] sp_check_pace) (G2 : OwnF P w K mg base "check_wait" 2 ["wait"] (sp_in 0 64)) (G3 : OwnF P w K mg base "check_many" 2 ["many"] (sp_in 1 32)) (G4 : OwnF P w K mg base "check_arrivals" 2 ["arrivals"] (sp_check_arrivals K)) (GW : OwnF P w K mg base "wanted" 2 ["pace", "passed"] sp_wanted) : FnOk P w K mg base CX0 3 f fd ["pace", "wait", "many", "arrivals"] (sp_judged K) := by
  refine F.ok sc_judged (fun vs H Q E h => ?_) (fun cdv A outer s H vs Q E hr h => ?_)
  · obtain ⟨tp, a, pn, pb, wt, many, arr, rfl, _⟩ := h
    rfl
  · obtain ⟨tp, a, pn, pb, wt, many, arr, rfl, htp, ha, hpn, hpb, hw, hm, hA, k⟩ := h
    have nd := sc_judged.nd
    have r2 := hr
    have hl := hA.len
    refine ⟨_, (pss_cons (ps_expr (p_call G1 r2 (pa_cons (pv 0) pa_nil)))
      (pss_cons (ps_expr (p_call G2 r2 (pa_cons (pv 1) pa_nil)))
      (pss_cons (ps_expr (p_call G3 r2 (pa_cons (pv 2) pa_nil)))
      (pss_cons (ps_expr (p_call G4 r2 (pa_cons (pv 3) pa_nil)))
      (pss_cons (ps_set (i := 4) nd rfl (.inl rfl) (pe_lst pa_nil))
      (pss_cons (ps_set (i := 5) nd rfl (.inl rfl) pe_int)
      (pss_cons (ps_set (i := 6) nd rfl (.inl rfl) (p_call GW r2 (pa_cons (pv 0) (pa_cons (pv 5) pa_nil))))
      (pss_cons (ps_while PassesOwn.never (pt_cmpR op_lt (pe_ix ix_list (pv 6) (pe_un un_neg pe_int) (fun _ _ => rfl)) (pe_op op_mul (pv 2) (pe_callB call_len_seq (by rfl) B.len PySem.boot_len (pa_cons (pv 3) pa_nil))) (nomark _)) (pss_cons (ps_set (i := 7) nd rfl (.inr rfl) (pe_op op_add (pv 1) (pv 5)))
      (pss_cons (ps_if (pt_val (pe_callB (cr_any rfl) (by rfl) B.any PyProof.Rows.boot_any (pa_cons (pe_lc (own := [("place", 8)]) (te := tOp (rI0 fun i j => .bl (decide (j < i))) (tOp (rIxL K) (tVar 3) (tOp (rI CDiv fun i j => .int (i / j)) (tVar 8) (tVar 2))) (tVar 7)) rfl nd (pi_list (pv 6)) (blkOk_by (N := NJ) (sc := defScope s_judged) (by decide +kernel)) (fun _ _ _ _ _ => pg_name (i := 8) nd rfl (.inl rfl)) (fun _ _ _ _ _ => pts_nil) (fun _ _ _ _ _ => pe_cmpR op_gt (pe_ix ix_list (pv 3) (pe_op op_fdiv (pv 8) (pv 2)) (fun _ _ => rfl)) (pv 7) (nomark _))) pa_nil))) (pss_one (ps_expr (pe_bm PySem.F.plainAttrs_list PySem.F.slot_list_append PySem.F.type_list_append mt_append (pv 4) (pa_cons (pv 7) pa_nil)))) pss_nil)
      (pss_cons (ps_aug (i := 5) nd rfl (.inl rfl) pe_int in_add)
      (pss_one (ps_set (i := 6) nd rfl (.inl rfl) (p_call GW r2 (pa_cons (pv 0) (pa_cons (pv 5) pa_nil)))))))))
      (pss_one (ps_ret (pv 4))))))))))), ?_⟩
    walk_at "rd"
    refine ⟨tp, pn, pb, rfl, htp, hpn, hpb, fun H1 s1 => ?_⟩
    refine ⟨wt, rfl, hw.1, hw.2, many, rfl, hm.1, hm.2, a, arr, rfl, seq_st ha s1 (by simp), hA, fun H2 s2 => ?_⟩
    walk_at "rd"
    refine ⟨by decide, fun m hm0 => ?_⟩
    have s3 := Stp.new (o := .lst []) hm0
    have e3 : upd H2 m (.lst []) m = some (.lst []) := upd_same
    have ham : a ≠ m ∨ ∀ H', SqL K H' a (arr.map V.int) := by
      rcases seq_st ha (s1.trans s2) (by simp) with (q | ⟨o, q⟩) | q
      · exact .inl (ne_of_none q hm0)
      · exact .inl (ne_of_none q hm0)
      · exact .inr fun H' => .inr q
    have t3 : Stp [] H (upd H2 m (.lst [])) := (s1.trans s2).trans s3
    have ha3 := seq_st ha t3 (by simp)
    have hm0' : H m = none := (s1.trans s2).free hm0 (by simp)
    generalize upd H2 m (.lst []) = H3 at *
    have htp3 := t3.tup _ _ htp
    refine ⟨tp, pn, pb, 0, rfl, htp3, hpn, hpb, fun wp H4 hwp s4 hw4 => ?_⟩
    have hmw : m ≠ wp := ne_of_none e3 hwp
    have hM1 : 0 ≤ many * (arr.length : Int) := Int.mul_nonneg (by omega) (by omega)
    have hM2 : many * (arr.length : Int) ≤ 32 * 30 := Int.mul_le_mul hm.2 (by omega) (by omega) (by decide)
    refine while_by (fun σ H' => ∃ (T : Nat) (wp : Addr) (x7 : Option V), σ = [some (.ref tp), some (.int wt), some (.int many), some (.ref a), some (.ref m), some (.int (T : Int)), some (.ref wp), x7, none] ∧ Stp [m] H3 H' ∧ H' m = some (.lst ((judN arr pn pb many wt T).map V.int)) ∧ H' wp = some (.lst ((wantN T pn pb).map V.int)) ∧ T ≤ 8000 ∧ ∀ p : Nat, p < T → lastN p pn pb < many * (arr.length : Int))
      (fun σ _ => match σ[5]? with | some (some (V.int b)) => 9000 - b.toNat | _ => 0) ?_ (fun σ H' h => ?_) (fun σ H' Q1 Q2 imp h => ?_)
    · exact ⟨0, wp, none, rfl, s4.sub (by simp), s4.keep _ _ e3 (by simp), hw4, by decide, fun p hp => by omega⟩
    · obtain ⟨T, wp, x7, rfl, sj, hmj, hwj, hTj, hlj⟩ := h
      have haj := seq_or ha3 sj ham
      obtain ⟨f1, f2, f3, f4⟩ := last_far hpn hpb (n := (T : Int)) (by omega)
      walk_at "rd"
      refine ixL (.inl (.inl hwj)) at_last ?_
      walk_at "rd"
      refine ⟨_, .inl haj, .inl ⟨by omega, by omega⟩, ?_⟩
      rw [List.length_map]
      by_cases hlt : lastN (T : Int) pn pb < many * (arr.length : Int)
      · rw [if_pos hlt]
        have fx : ∀ L ∈ wantN (T : Int) pn pb, 0 ≤ L / many ∧ L / many < (arr.length : Int) := fun L hL => by
          have h0 : 0 ≤ L ∧ L ≤ lastN (T : Int) pn pb := by
            rcases want_mem hL with e | e <;> rw [e] <;> omega
          refine ⟨Int.ediv_nonneg h0.1 (by omega), Int.ediv_lt_of_lt_mul (by omega) ?_⟩
          rw [Int.mul_comm]
          omega
        refine ⟨_, rfl, wp, rfl, ⟨_, .inl (.inl hwj)⟩, lc_pure (K := K) (a := wp) (H9 := H') (i := 8) (te := tOp (rI0 fun i j => .bl (decide (j < i))) (tOp (rIxL K) (tVar 3) (tOp (rI CDiv fun i j => .int (i / j)) (tVar 8) (tVar 2))) (tVar 7)) (σ := [some (.ref tp), some (.int wt), some (.int many), some (.ref a), some (.ref m), some (.int (T : Int)), some (.ref wp), some (.int (wt + (T : Int))), none]) (Q := fun x H1 => rAny K [x] H1 _)
          (fun x => match x with | .int L => .bl (decide (wt + (T : Int) < arr.getD (L / many).toNat 0)) | _ => .bl false) (.inl (.inl hwj)) ?_ (fun x hx H1 Q' hs q => ?_) (fun D H1 hD hs1 hl1 => ?_)⟩
        · rw [List.length_map]
          unfold wantN
          split <;> simp
        · obtain ⟨L, hL, rfl⟩ := List.mem_map.mp hx
          obtain ⟨l0, l1⟩ := fx L hL
          have haq := seq_st haj hs (by simp)
          refine ⟨_, rfl, _, rfl, _, rfl, _, _, rfl, rfl, ⟨by omega, by omega⟩, ?_⟩
          refine ixL haq (at_arr l0 l1) ?_
          exact ⟨_, rfl, _, _, rfl, rfl, q⟩
        · refine ⟨D, (wantN (T : Int) pn pb).map fun L => decide (wt + (T : Int) < arr.getD (L / many).toNat 0), rfl, .inl (.inl (by rw [hl1, List.map_map, List.map_map]; rfl)), ?_⟩
          rw [List.any_map]
          rw [show ((wantN (T : Int) pn pb).any (id ∘ fun L => decide (wt + (T : Int) < arr.getD (L / many).toNat 0))) = lateN arr pn pb many wt (T : Int) from rfl]
          have hm1 := hs1.keep _ _ hmj (by simp)
          have hjs := judN_succ arr pn pb many wt T
          have hjl := judN_len arr pn pb many wt T
          have nx : ∀ (Hn : Hp) , Stp [m] H' Hn → Hn m = some (.lst ((judN arr pn pb many wt (T + 1)).map V.int)) → sp_wanted [.ref tp, .int ((T : Int) + 1)] Hn (fun x H1 => (∃ T_1 : Nat, (T : Int) + 1 = (T_1 : Int) ∧ ∃ wp, x = .ref wp ∧ Stp [m] H3 H1 ∧ H1 m = some (.lst ((judN arr pn pb many wt T_1).map V.int)) ∧ H1 wp = some (.lst ((wantN T_1 pn pb).map V.int)) ∧ T_1 ≤ 8000 ∧ ∀ p : Nat, p < T_1 → lastN p pn pb < many * (arr.length : Int)) ∧ 9000 - ((T : Int) + 1).toNat < 9000 - (T : Int).toNat) E0 := by
            intro Hn sn hmn
            refine ⟨tp, pn, pb, (T : Int) + 1, rfl, sn.tup _ _ (sj.tup _ _ htp3), hpn, hpb, fun w5 H5 hw5 s5 hl5 => ⟨⟨T + 1, by simp, w5, rfl, ((sj.trans sn).trans s5).sub (by simp), s5.keep _ _ hmn (by simp), by simpa using hl5, by omega, fun p hp => ?_⟩, by omega⟩⟩
            by_cases e : p = T
            · rw [e]
              exact hlt
            · exact hlj p (by omega)
          cases eb : lateN arr pn pb many wt (T : Int) with
          | true =>
            rw [eb] at hjs
            walk_at "rd"
            refine ⟨.inl ⟨rfl, _, .inl (.inl hm1)⟩, m, _, _, rfl, rfl, hm1, ?_, nx _ ((hs1.trans (Stp.put (o := .lst ((judN arr pn pb many wt T).map V.int ++ [.int (wt + (T : Int))])) hm1 (fun xs z => nomatch z))).sub (by simp)) ?_⟩
            · rw [List.length_map]
              exact Nat.lt_of_le_of_lt (show _ ≤ 100000 by omega) (by decide)
            · rw [upd_same, hjs, List.map_append]
              rfl
          | false =>
            rw [eb] at hjs
            walk_at "rd"
            refine nx H1 (hs1.sub (by simp)) ?_
            rw [hjs, hm1]
            simp
      · rw [if_neg hlt]
        exact k T m H' hm0' ((t3.trans sj).subN fun b hb => .inr (by
          have : b = m := by simpa using hb
          rw [this]; exact hm0')) hmj (by omega) hlj (by omega)
    · obtain ⟨v, hv, i1, e1, p, xs, i2, z, e2, e3, hs, hz, v2, hv2, v3, hv3, p3, e4, x3, hx3, i5, j5, e5, e6, c5, i6, j6, e7, e8, c, ec, q⟩ := h
      exact ⟨v, hv, i1, e1, p, xs, i2, z, e2, e3, hs, hz, v2, hv2, v3, hv3, p3, e4, x3, hx3, i5, j5, e5, e6, c5, i6, j6, e7, e8, c, ec, imp _ _ q⟩
end
end Mx

namespace Mx
open PySem L2
set_option hygiene false in
local macro_rules | `(tactic| walk_at "rd") => `(tactic| try simp only [L2.start, List.map_cons, List.map_nil, List.length_cons, List.length_nil, Nat.reduceAdd, Nat.reduceSub, Nat.reduceLT, Nat.reduceLeDiff, List.replicate_succ, List.replicate_zero, List.append_nil, List.nil_append, List.cons_append, List.set_cons_zero, List.set_cons_succ, List.getElem?_cons_zero, List.getElem?_cons_succ,
  Option.some.injEq, List.cons.injEq, and_true, true_and, and_assoc, reduceCtorEq, L2.V.int.injEq, L2.V.ref.injEq, L2.V.bl.injEq, L2.V.str.injEq, L2.V.ty.injEq, L2.HO.ins.injEq, L2.HO.lst.injEq, L2.HO.tup.injEq, L2.HO.dK.injEq, exists_eq_left', exists_eq_left, exists_eq_right, exists_eq', exists_eq, exists_and_left, exists_and_right, reduceIte, Bool.false_eq_true, Bool.not_true, Bool.not_false,
  L2.tSeq, L2.tIfS, L2.tRet, L2.tRetN, L2.tNext, L2.tAsg, L2.gName, L2.tVar, L2.tC, L2.tCons, L2.tNil, L2.tCB, L2.tOp, L2.tUn, L2.tTup, L2.tLst, L2.tB, L2.tOr, L2.tAnd, L2.tNot, L2.tAndV, L2.tOrV, L2.tNotV, L2.tIf, L2.tTest, L2.tChain, L2.rI, L2.rI0, L2.rU, L2.tDrop, L2.tNever, L2.tCall, L2.tMeth, L2.tMake, L2.rGcd, L2.tFld, L2.sFld, L2.sFldAug, Mx.sFldA, Mx.sFldAugA, L2.rAdd, L2.rSub, L2.rEq, L2.rNe, L2.tDGet, L2.tDIn, L2.tDNotIn, L2.sDPut,
  Mx.isi_int_bool, Mx.isi_int_int, Mx.isi_int_tuple, Mx.isi_int_list, Mx.isi_int_str, Mx.scal_int, Mx.scal_str, Mx.scal_bl, Mx.ofString_inj, Mx.ofString_beq, Mx.lk_cons, Mx.pf_nil, Mx.pf_cons, Mx.sz1, Mx.sz2, List.lookup_nil, String.reduceEq, decide_true, decide_false, decide_eq_true_eq, Int.natAbs_natCast, L2.upd_same, L2.upd_upd, L2.cxOf, L2.gCons, L2.gNil, L2.gSub, L2.tPar, L2.tPar3, L2.tAug, L2.tBM])
set_option hygiene false in
local macro_rules | `(tactic| walk_at "rds") => `(tactic| try simp only [L2.start, List.map_cons, List.map_nil, List.length_cons, List.length_nil, Nat.reduceAdd, Nat.reduceSub, Nat.reduceLT, Nat.reduceLeDiff, List.replicate_succ, List.replicate_zero, List.append_nil, List.nil_append, List.cons_append, List.set_cons_zero, List.set_cons_succ, List.getElem?_cons_zero, List.getElem?_cons_succ,
  Option.some.injEq, List.cons.injEq, and_true, true_and, and_assoc, reduceCtorEq, L2.V.int.injEq, L2.V.ref.injEq, L2.V.bl.injEq, L2.V.str.injEq, L2.V.ty.injEq, L2.HO.ins.injEq, L2.HO.lst.injEq, L2.HO.tup.injEq, L2.HO.dK.injEq, exists_eq_left', exists_eq_left, exists_eq_right, exists_eq', exists_eq, exists_and_left, exists_and_right, reduceIte, Bool.false_eq_true, Bool.not_true, Bool.not_false,
  L2.tSeq, L2.tIfS, L2.tRet, L2.tRetN, L2.tNext, L2.tAsg, L2.gName, L2.tVar, L2.tC, L2.tCons, L2.tNil, L2.tCB, L2.tOp, L2.tUn, L2.tTup, L2.tLst, L2.tB, L2.tOr, L2.tAnd, L2.tNot, L2.tAndV, L2.tOrV, L2.tNotV, L2.tIf, L2.tTest, L2.tChain, L2.rI, L2.rI0, L2.rU, L2.tDrop, L2.tNever, L2.tCall, L2.tMeth, L2.tMake, L2.rGcd, L2.tFld, L2.sFld, L2.sFldAug, Mx.sFldA, Mx.sFldAugA, L2.rAdd, L2.rSub, L2.rEq, L2.rNe, L2.tDGet, L2.tDIn, L2.tDNotIn, L2.sDPut,
  Mx.isi_int_bool, Mx.isi_int_int, Mx.isi_int_tuple, Mx.isi_int_list, Mx.isi_int_str, Mx.scal_int, Mx.scal_str, Mx.scal_bl, Mx.ofString_inj, Mx.ofString_beq, Mx.lk_cons, Mx.pf_nil, Mx.pf_cons, Mx.sz1, Mx.sz2, List.lookup_nil, String.reduceEq, decide_true, decide_false, decide_eq_true_eq, Int.natAbs_natCast, L2.upd_same, L2.upd_upd, L2.cxOf, L2.gCons, L2.gNil, L2.gSub, L2.tPar, L2.tPar3, L2.tAug, L2.tBM, *])

section
variable {P : Program} {w : World} {K : PySem.W.Frag} {mg : Str → Option Value} {base : Heap}
theorem c8 {p : Int → Prop} (h1 : p 1) (h2 : p 2) (h3 : p 3) (h4 : p 4) (h5 : p 5) (h6 : p 6) (h7 : p 7) (h8 : p 8) {b : Int} (hb : 1 ≤ b ∧ b ≤ 8) : p b := by
  have : b = 1 ∨ b = 2 ∨ b = 3 ∨ b = 4 ∨ b = 5 ∨ b = 6 ∨ b = 7 ∨ b = 8 := by omega
  rcases this with e | e | e | e | e | e | e | e <;> subst e <;> assumption
theorem lastN_ceil {n pn pb : Int} (hb : 1 ≤ pb ∧ pb ≤ 8) : 0 - (0 - n * pn) / pb = lastN n pn pb := by
  unfold lastN restN lowN
  generalize n * pn = X
  refine c8 (p := fun b => 0 - (0 - X) / b = if X % b = 0 then X / b else X / b + 1) ?_ ?_ ?_ ?_ ?_ ?_ ?_ ?_ hb <;> (split <;> omega)
theorem lastN_mono {n m pn pb : Int} (hn : 1 ≤ pn) (hb : 1 ≤ pb ∧ pb ≤ 8) (h : n ≤ m) : lastN n pn pb ≤ lastN m pn pb := by
  unfold lastN restN lowN
  have hm := Int.mul_le_mul_of_nonneg_right h (show 0 ≤ pn by omega)
  generalize n * pn = X at *
  generalize m * pn = Y at *
  revert hm
  refine c8 (p := fun b => X ≤ Y → (if X % b = 0 then X / b else X / b + 1) ≤ (if Y % b = 0 then Y / b else Y / b + 1)) ?_ ?_ ?_ ?_ ?_ ?_ ?_ ?_ hb <;> (intro hm; split <;> split <;> omega)
theorem lastN_top {last pn pb : Int} (hn : 1 ≤ pn ∧ pn ≤ 8) (hb : 1 ≤ pb ∧ pb ≤ 8) : last < lastN (1 + max 0 last * pb / pn) pn pb := by
  have h0 : 0 ≤ max 0 last * pb / pn := Int.ediv_nonneg (Int.mul_nonneg (by omega) (by omega)) (by omega)
  have h1 : max 0 last * pb < (1 + max 0 last * pb / pn) * pn := by
    have e := Int.emod_add_mul_ediv (max 0 last * pb) pn
    have l := Int.emod_lt_of_pos (max 0 last * pb) (show 0 < pn by omega)
    rw [Int.add_mul, Int.one_mul, Int.mul_comm (max 0 last * pb / pn) pn]
    omega
  unfold lastN restN lowN
  generalize (1 + max 0 last * pb / pn) * pn = X at *
  have h2 : 0 ≤ max 0 last ∧ last ≤ max 0 last := by omega
  generalize max 0 last = Z at *
  revert h1
  refine c8 (p := fun b => Z * b < X → last < (if X % b = 0 then X / b else X / b + 1)) ?_ ?_ ?_ ?_ ?_ ?_ ?_ ?_ hb <;> (intro h1; split <;> omega)
/-! ### what the law reckons -/
def dueN (arr : List Int) (pn pb many wt last : Int) (N : Nat) : List Int := ((List.range N).filter fun q : Nat => decide (lastN q pn pb ≤ last) && lateN arr pn pb many wt q).map fun q : Nat => wt + (q : Int)
theorem dueN_succ (arr : List Int) (pn pb many wt last : Int) (T : Nat) : dueN arr pn pb many wt last (T + 1) = dueN arr pn pb many wt last T ++ if (decide (lastN T pn pb ≤ last) && lateN arr pn pb many wt T) = true then [wt + (T : Int)] else [] := by
  unfold dueN
  rw [List.range_succ, List.filter_append, List.map_append]
  congr 1
  rw [List.filter_cons, List.filter_nil]
  split <;> rfl
theorem dueN_len (arr : List Int) (pn pb many wt last : Int) (T : Nat) : (dueN arr pn pb many wt last T).length ≤ T := by
  unfold dueN
  rw [List.length_map]
  exact Nat.le_trans (List.length_filter_le _ _) (by rw [List.length_range]; exact Nat.le_refl _)
theorem due_jud {arr : List Int} {pn pb many wt last : Int} {T N : Nat} (hn : 1 ≤ pn) (hb : 1 ≤ pb ∧ pb ≤ 8) (h1 : ∀ p : Nat, p < T → lastN p pn pb ≤ last) (h2 : last < lastN T pn pb) (h3 : last < lastN N pn pb) : judN arr pn pb many wt T = dueN arr pn pb many wt last N := by
  have hTN : T ≤ N := by
    by_cases h : N < T
    · have := h1 N h
      omega
    · omega
  obtain ⟨d, rfl⟩ : ∃ d, N = T + d := ⟨N - T, by omega⟩
  clear h3 hTN
  induction d with
  | zero =>
    unfold judN dueN
    congr 1
    refine List.filter_congr fun p hp => ?_
    rw [decide_eq_true (h1 p (List.mem_range.mp hp))]
    rfl
  | succ d ih =>
    rw [← Nat.add_assoc, dueN_succ, ← ih]
    have := lastN_mono (n := (T : Int)) (m := ((T + d : Nat) : Int)) hn hb (by omega)
    rw [decide_eq_false (by omega)]
    simp
theorem late_any {arr : List Int} {pn pb many wt q : Int} (hb : 1 ≤ pb ∧ pb ≤ 8) : ([q * pn / pb, lastN q pn pb].map V.int).filter (fun x => match x with | .int L => decide (wt + q < arr.getD (L / many).toNat 0) | _ => false) = [] ↔ lateN arr pn pb many wt q = false := by
  unfold lateN wantN lastN restN lowN
  split <;> simp [List.filter_cons] <;> (split <;> simp_all <;> (try omega))
abbrev N09 : List Str := ["_law_script", "_law_row", "_law_turn", "_law_pace_here", "_law_wait", "_law_many", "_law_arrivals", "_law_k", "_law_made", "_law_some", "_law_due", "_law_last", "_law_beat", "_law_far", "_law_places", "_law_late", "_law_handed", "_law_again", "_law_found", "_law_place"]
theorem sc_law : FnScope N09 ["_law_script"] (defScope s_law) := ⟨rfl, rfl, rfl, by decide +kernel, rfl, by decide +kernel, by decide +kernel⟩
def sp_law (K : PySem.W.Frag) : Sp := fun vs H Q _ => ∃ (a : Addr) (ns : List Int), vs = [.ref a] ∧ SqL K H a (ns.map V.int) ∧ ns.length ≤ 63 ∧ ∀ H', Q (.bl true) H'
def forBody : Stmt → List Stmt
  | .For _ _ b _ _ => b
  | _ => []
abbrev pass0s : Stmt := .Pass ⟨0, 0, 0, 0⟩
abbrev bTurn : List Stmt := forBody ((defBody s_law).getD 1 pass0s)
abbrev bBeat : List Stmt := forBody (bTurn.getD 6 pass0s)
structure G09 (P : Program) (w : World) (K : PySem.W.Frag) (mg : Str → Option Value) (base : Heap) : Prop where
  min : mg "min" = none
  taken : OwnF P w K mg base "_law_taken" 1 ["_law_row", "_law_many"] (sp_taken K)
  pace : OwnF P w K mg base "_law_pace" 2 ["_law_row"] (sp_law_pace K)
  judged : OwnF P w K mg base "judged" 3 ["pace", "wait", "many", "arrivals"] (sp_judged K)
  alike1 : OwnF P w K mg base "_law_alike" 2 ["_law_found", "_law_due"] (sp_eq K 1)
abbrev XL (P : Program) (w : World) (K : PySem.W.Frag) (mg : Str → Option Value) (base : Heap) (f : Addr) (cdv : Value) (A : Around) (outer : List Env) (s : Shared) (H : Hp) (E : XK) : Cx := (cxOf CX0 P w K mg base N09 "law" (defScope s_law) f cdv A outer s H E).nox
theorem beat_ok (B : Blt mg) (G : G09 P w K mg base) {f : Addr} {cdv : Value} {A : Around} {outer : List Env} {s : Shared} {H : Hp} {E : XK} (hr : Room 3 (A.deeper (PyProof.Rows.envOfC "law" (defScope s_law) s.heap.objs.size f cdv))) :
    ∃ t, PSs (XL P w K mg base f cdv A outer s H E) bBeat t ∧ ∀ (D : Ends) (H1 : Hp) (sc r pc ar du : Addr) (x2 x7 x8 x9 x13 x14 x15 x16 x17 x18 : Option V) (pn pb wt many last q : Int) (arr dl : List Int),
      H1 pc = some (.tup [.int pn, .int pb]) → H1 ar = some (.lst (arr.map V.int)) → H1 du = some (.lst (dl.map V.int)) → ar ≠ du → (1 ≤ pn ∧ pn ≤ 8) → (1 ≤ pb ∧ pb ≤ 8) → (1 ≤ many ∧ many ≤ 32) → last = many * (arr.length : Int) - 1 → arr.length ≤ 30 → 0 ≤ q → q ≤ 100000 → dl.length ≤ 100000 →
      (∀ H2 y13 y14 y15, Stp [du] H1 H2 → H2 du = some (.lst ((dl ++ if (decide (lastN q pn pb ≤ last) && lateN arr pn pb many wt q) = true then [wt + q] else []).map V.int)) → D.nx [some (.ref sc), some (.ref r), x2, some (.ref pc), some (.int wt), some (.int many), some (.ref ar), x7, x8, x9, some (.ref du), some (.int last), some (.int (wt + q)), y13, y14, y15, x16, x17, x18, none] H2) →
      t D [some (.ref sc), some (.ref r), x2, some (.ref pc), some (.int wt), some (.int many), some (.ref ar), x7, x8, x9, some (.ref du), some (.int last), some (.int (wt + q)), x13, x14, x15, x16, x17, x18, none] H1 := by
  have nd := sc_law.nd
  have hu64 : (A.deeper (PyProof.Rows.envOfC "law" (defScope s_law) s.heap.objs.size f cdv)).units + 64 < cLine := by
    have := hr.un
    omega
  have r1 := hr.mono (show 1 ≤ 3 by decide)
  have r2 := hr.mono (show 2 ≤ 3 by decide)
  have r3 := hr
  refine ⟨_, (pss_cons (ps_set (i := 13) nd rfl (.inl rfl) (pe_op op_mul (pe_op op_sub (pv 12) (pv 4)) (pe_ix ix_tup (pv 3) pe_int (fun _ _ => rfl))))
      (pss_cons (ps_set (i := 14) nd rfl (.inl rfl) (pe_lst (pa_cons (pe_op op_fdiv (pv 13) (pe_ix ix_tup (pv 3) pe_int (fun _ _ => rfl))) (pa_cons (pe_op op_sub pe_int (pe_op op_fdiv (pe_op op_sub pe_int (pv 13)) (pe_ix ix_tup (pv 3) pe_int (fun _ _ => rfl)))) pa_nil))))
      (pss_one (ps_if (pt_cmpR op_le (pe_ix ix_list (pv 14) pe_int (fun _ _ => rfl)) (pv 11) (nomark _)) (pss_cons (ps_setLc (i := 15) (own := [("_law_place", 19)]) (tt := tTest (tOp (rI0 fun i j => .bl (decide (j < i))) (tOp (rIxL K) (tVar 6) (tOp (rI CDiv fun i j => .int (i / j)) (tVar 19) (tVar 5))) (tVar 12))) (te := tVar 19) rfl nd rfl rfl (sw_true rfl rfl rfl (by decide +kernel)) (pi_list (pv 14)) (blkOk_by (N := N09) (sc := defScope s_law) (by decide +kernel)) (fun _ _ _ _ _ => pg_name (i := 19) nd rfl (.inl rfl)) (fun _ _ _ _ _ => pts_one (pt_cmpR op_gt (pe_ix ix_list (pv 6) (pe_op op_fdiv (pv 19) (pv 5)) (fun _ _ => rfl)) (pv 12) (nomark _))) (fun _ _ _ _ _ => pv 19))
      (pss_one (ps_expr (pe_bm PySem.F.plainAttrs_list PySem.F.slot_list_extend PySem.F.type_list_extend mt_extend (pv 10) (pa_cons (pe_op op_rep (pe_lst (pa_cons (pv 12) pa_nil)) (pe_callTy call_int1 (by rfl) B.int PyProof.Rows.boot_int (pa_cons (pe_cmpR (op_neD hu64) (pv 15) (pe_lst pa_nil) (nomark _)) pa_nil))) pa_nil))))) pss_nil)))), ?_⟩
  intro D H1 sc r pc ar du x2 x7 x8 x9 x13 x14 x15 x16 x17 x18 pn pb wt many last q arr dl hpc har hdu had hpn hpb hm hlast hl q0 q1 hdl k
  have hT : TupAt K H1 pc [.int pn, .int pb] := .inl hpc
  walk_at "rd"
  refine ixT_0 hT ?_
  walk_at "rd"
  refine ⟨.inr ⟨by omega, by omega⟩, ixT_1 hT ⟨_, rfl, ⟨by omega, by omega⟩, ixT_1 hT ⟨_, rfl, ⟨by omega, by omega⟩, fun p hp => ?_⟩⟩⟩
  rw [show wt + q - wt = q by omega, lastN_ceil hpb]
  have s1 := Stp.new (o := .lst [.int (q * pn / pb), .int (lastN q pn pb)]) hp
  have hl1 : upd H1 p (.lst [.int (q * pn / pb), .int (lastN q pn pb)]) p = some (.lst [.int (q * pn / pb), .int (lastN q pn pb)]) := upd_same
  generalize upd H1 p (.lst [.int (q * pn / pb), .int (lastN q pn pb)]) = H2 at *
  have har2 := s1.keep _ _ har (by simp)
  have hdu2 := s1.keep _ _ hdu (by simp)
  refine ixL (.inl (.inl hl1)) (x := .int (lastN q pn pb)) rfl ⟨_, rfl, ?_⟩
  by_cases hle : lastN q pn pb ≤ last
  · rw [if_pos hle]
    rw [decide_eq_true hle, Bool.true_and] at k
    have f0 := last_far hpn hpb q0
    have fx : ∀ L, (L = q * pn / pb ∨ L = lastN q pn pb) → 0 ≤ L / many ∧ L / many < (arr.length : Int) := fun L hL => by
      have h0 : 0 ≤ L ∧ L ≤ lastN q pn pb := by
        have : lowN q pn pb = q * pn / pb := rfl
        rcases hL with e | e <;> rw [e] <;> omega
      refine ⟨Int.ediv_nonneg h0.1 (by omega), Int.ediv_lt_of_lt_mul (by omega) ?_⟩
      rw [Int.mul_comm]
      omega
    refine lc_pureFv (K := K) (a := p) (fun x => match x with | .int L => decide (wt + q < arr.getD (L / many).toNat 0) | _ => false) (xs := [q * pn / pb, lastN q pn pb].map V.int) rfl (.inl (.inl hl1)) (by show 2 ≤ 100000; decide) (fun x hx H3 Q' hs qq => ?_) (fun x hx hpx H3 Q' hs qq => ⟨_, rfl, qq⟩) (fun D3 H3 hD3 hs3 hl3 => ?_)
    · obtain ⟨L, hL, rfl⟩ := List.mem_map.mp hx
      obtain ⟨l0, l1⟩ := fx L (by simpa using hL)
      have har3 := hs.keep _ _ har2 (by simp)
      refine ⟨_, rfl, _, rfl, _, rfl, _, _, rfl, rfl, ⟨by omega, by omega⟩, ?_⟩
      refine ixL (.inl (.inl har3)) (at_arr l0 l1) ?_
      exact ⟨_, rfl, _, _, rfl, rfl, _, rfl, qq⟩
    · have hdu3 := hs3.keep _ _ hdu2 (by simp)
      refine ⟨.inl ⟨rfl, _, .inl (.inl hdu3)⟩, fun p1 hp1 => ?_⟩
      have s4 := Stp.new (o := .lst [.int (wt + q)]) hp1
      have h41 : upd H3 p1 (.lst [.int (wt + q)]) p1 = some (.lst [.int (wt + q)]) := upd_same
      generalize upd H3 p1 (.lst [.int (wt + q)]) = H4 at *
      refine ⟨by decide, fun p2 hp2 => ?_⟩
      have s5 := Stp.new (o := .lst []) hp2
      have h52 : upd H4 p2 (.lst []) p2 = some (.lst []) := upd_same
      have h51 := s5.keep _ _ h41 (by simp)
      have h5D := s5.keep _ _ (s4.keep _ _ hl3 (by simp)) (by simp)
      have h5u := s5.keep _ _ (s4.keep _ _ hdu3 (by simp)) (by simp)
      generalize upd H4 p2 (.lst []) = H5 at *
      have t5 : Stp [] H1 H5 := s1.trans (hs3.trans (s4.trans s5))
      obtain ⟨fl, hfl⟩ : ∃ fl : List Int, ([q * pn / pb, lastN q pn pb].map V.int).filter (fun x => match x with | .int L => decide (wt + q < arr.getD (L / many).toNat 0) | _ => false) = fl.map V.int ∧ (fl = [] ↔ lateN arr pn pb many wt q = false) := by
        refine ⟨[q * pn / pb, lastN q pn pb].filter fun L => decide (wt + q < arr.getD (L / many).toNat 0), ?_, ?_⟩
        · rw [List.filter_map]
          rfl
        · rw [← late_any hpb, List.filter_map, List.map_eq_nil_iff]
          rfl
      obtain ⟨hfl, hfe⟩ := hfl
      rw [hfl] at h5D
      refine ne_nilL h5D h52 (ints_refl (n := 0) fl) (by decide) ?_
      have he : (!(fl.map V.int).isEmpty) = lateN arr pn pb many wt q := by
        cases fl with
        | nil => rw [hfe.mp rfl]; rfl
        | cons x r =>
          cases e : lateN arr pn pb many wt q with
          | true => rfl
          | false => exact nomatch hfe.mpr e
      rw [he]
      refine .inr ⟨_, rfl, p1, _, _, rfl, rfl, h51, by split <;> decide, by split <;> decide, ?_, fun p3 hp3 => ?_⟩
      · split <;> (show 1 * _ ≤ sizeLine; decide)
      have e3 : (List.replicate (if lateN arr pn pb many wt q = true then (1 : Int) else 0).toNat [V.int (wt + q)]).flatten = (if lateN arr pn pb many wt q = true then [wt + q] else []).map V.int := by
        split <;> rfl
      rw [e3]
      have s6 := Stp.new (o := .lst ((if lateN arr pn pb many wt q = true then [wt + q] else []).map V.int)) hp3
      have h63 : upd H5 p3 (.lst ((if lateN arr pn pb many wt q = true then [wt + q] else []).map V.int)) p3 = some (.lst ((if lateN arr pn pb many wt q = true then [wt + q] else []).map V.int)) := upd_same
      have h6u := s6.keep _ _ h5u (by simp)
      generalize upd H5 p3 (.lst ((if lateN arr pn pb many wt q = true then [wt + q] else []).map V.int)) = H6 at *
      refine ⟨du, p3, _, _, rfl, rfl, h6u, h63, ?_, ?_⟩
      · rw [List.length_map, List.length_map]
        have : (if lateN arr pn pb many wt q = true then [wt + q] else []).length ≤ 1 := by split <;> simp
        exact Nat.le_trans (show _ ≤ 100001 by omega) (by decide)
      · rw [← List.map_append]
        exact k _ _ _ _ ((t5.trans (s6.trans (Stp.put h6u (fun xs z => nomatch z)))).sub (by simp)) upd_same
  · rw [if_neg hle]
    rw [decide_eq_false hle] at k
    exact k H2 _ _ _ (s1.sub (by simp)) (by simpa using hdu2)
end
end Mx

namespace Mx
open PySem L2
set_option hygiene false in
local macro_rules | `(tactic| walk_at "rd") => `(tactic| try simp only [L2.start, List.map_cons, List.map_nil, List.length_cons, List.length_nil, Nat.reduceAdd, Nat.reduceSub, Nat.reduceLT, Nat.reduceLeDiff, List.replicate_succ, List.replicate_zero, List.append_nil, List.nil_append, List.cons_append, List.set_cons_zero, List.set_cons_succ, List.getElem?_cons_zero, List.getElem?_cons_succ,
  Option.some.injEq, List.cons.injEq, and_true, true_and, and_assoc, reduceCtorEq, L2.V.int.injEq, L2.V.ref.injEq, L2.V.bl.injEq, L2.V.str.injEq, L2.V.ty.injEq, L2.HO.ins.injEq, L2.HO.lst.injEq, L2.HO.tup.injEq, L2.HO.dK.injEq, exists_eq_left', exists_eq_left, exists_eq_right, exists_eq', exists_eq, exists_and_left, exists_and_right, reduceIte, Bool.false_eq_true, Bool.not_true, Bool.not_false,
  L2.tSeq, L2.tIfS, L2.tRet, L2.tRetN, L2.tNext, L2.tAsg, L2.gName, L2.tVar, L2.tC, L2.tCons, L2.tNil, L2.tCB, L2.tOp, L2.tUn, L2.tTup, L2.tLst, L2.tB, L2.tOr, L2.tAnd, L2.tNot, L2.tAndV, L2.tOrV, L2.tNotV, L2.tIf, L2.tTest, L2.tChain, L2.rI, L2.rI0, L2.rU, L2.tDrop, L2.tNever, L2.tCall, L2.tMeth, L2.tMake, L2.rGcd, L2.tFld, L2.sFld, L2.sFldAug, Mx.sFldA, Mx.sFldAugA, L2.rAdd, L2.rSub, L2.rEq, L2.rNe, L2.tDGet, L2.tDIn, L2.tDNotIn, L2.sDPut,
  Mx.isi_int_bool, Mx.isi_int_int, Mx.isi_int_tuple, Mx.isi_int_list, Mx.isi_int_str, Mx.scal_int, Mx.scal_str, Mx.scal_bl, Mx.ofString_inj, Mx.ofString_beq, Mx.lk_cons, Mx.pf_nil, Mx.pf_cons, Mx.sz1, Mx.sz2, List.lookup_nil, String.reduceEq, decide_true, decide_false, decide_eq_true_eq, Int.natAbs_natCast, L2.upd_same, L2.upd_upd, L2.cxOf, L2.gCons, L2.gNil, L2.gSub, L2.tPar, L2.tPar3, L2.tAug, L2.tBM])
set_option hygiene false in
local macro_rules | `(tactic| walk_at "rds") => `(tactic| try simp only [L2.start, List.map_cons, List.map_nil, List.length_cons, List.length_nil, Nat.reduceAdd, Nat.reduceSub, Nat.reduceLT, Nat.reduceLeDiff, List.replicate_succ, List.replicate_zero, List.append_nil, List.nil_append, List.cons_append, List.set_cons_zero, List.set_cons_succ, List.getElem?_cons_zero, List.getElem?_cons_succ,
  Option.some.injEq, List.cons.injEq, and_true, true_and, and_assoc, reduceCtorEq, L2.V.int.injEq, L2.V.ref.injEq, L2.V.bl.injEq, L2.V.str.injEq, L2.V.ty.injEq, L2.HO.ins.injEq, L2.HO.lst.injEq, L2.HO.tup.injEq, L2.HO.dK.injEq, exists_eq_left', exists_eq_left, exists_eq_right, exists_eq', exists_eq, exists_and_left, exists_and_right, reduceIte, Bool.false_eq_true, Bool.not_true, Bool.not_false,
  L2.tSeq, L2.tIfS, L2.tRet, L2.tRetN, L2.tNext, L2.tAsg, L2.gName, L2.tVar, L2.tC, L2.tCons, L2.tNil, L2.tCB, L2.tOp, L2.tUn, L2.tTup, L2.tLst, L2.tB, L2.tOr, L2.tAnd, L2.tNot, L2.tAndV, L2.tOrV, L2.tNotV, L2.tIf, L2.tTest, L2.tChain, L2.rI, L2.rI0, L2.rU, L2.tDrop, L2.tNever, L2.tCall, L2.tMeth, L2.tMake, L2.rGcd, L2.tFld, L2.sFld, L2.sFldAug, Mx.sFldA, Mx.sFldAugA, L2.rAdd, L2.rSub, L2.rEq, L2.rNe, L2.tDGet, L2.tDIn, L2.tDNotIn, L2.sDPut,
  Mx.isi_int_bool, Mx.isi_int_int, Mx.isi_int_tuple, Mx.isi_int_list, Mx.isi_int_str, Mx.scal_int, Mx.scal_str, Mx.scal_bl, Mx.ofString_inj, Mx.ofString_beq, Mx.lk_cons, Mx.pf_nil, Mx.pf_cons, Mx.sz1, Mx.sz2, List.lookup_nil, String.reduceEq, decide_true, decide_false, decide_eq_true_eq, Int.natAbs_natCast, L2.upd_same, L2.upd_upd, L2.cxOf, L2.gCons, L2.gNil, L2.gSub, L2.tPar, L2.tPar3, L2.tAug, L2.tBM, *])

section
variable {P : Program} {w : World} {K : PySem.W.Frag} {mg : Str → Option Value} {base : Heap}
theorem tix_1 {σ : L2.St} {H : Hp} {i : Nat} {a : Addr} {x y : V} {r : List V} {Q : VK} (h : σ[i]? = some (some (.ref a))) (hp : TupAt K H a (x :: y :: r)) (q : Q y H) : tOp (rIxT K) (tVar i) (tC (.int 1)) σ H Q := ⟨_, h, ixT_1 hp q⟩
theorem tix_0 {σ : L2.St} {H : Hp} {i : Nat} {a : Addr} {x : V} {r : List V} {Q : VK} (h : σ[i]? = some (some (.ref a))) (hp : TupAt K H a (x :: r)) (q : Q x H) : tOp (rIxT K) (tVar i) (tC (.int 0)) σ H Q := ⟨_, h, ixT_0 hp q⟩
theorem ok_law (B : Blt mg) (G : G09 P w K mg base) {f : Addr} {fd : FuncData} (F : Fun K "law" "law" s_law f fd) : FnOk P w K mg base CX0 4 f fd ["_law_script"] (sp_law K) := by
  refine F.ok sc_law (fun vs H Q E h => ?_) (fun cdv A outer s H vs Q E hr h => ?_)
  · obtain ⟨a, ns, rfl, _⟩ := h
    rfl
  · obtain ⟨sc, ns, rfl, hS, hlen, k⟩ := h
    have nd := sc_law.nd
    have hu64 : (A.deeper (PyProof.Rows.envOfC "law" (defScope s_law) s.heap.objs.size f cdv)).units + 64 < cLine := by
      have := hr.un
      omega
    have r1 := hr.mono (show 1 ≤ 3 by decide)
    have r2 := hr.mono (show 2 ≤ 3 by decide)
    have r3 := hr
    obtain ⟨tB, hB, qB⟩ := beat_ok B G (outer := outer) (H := H) (E := E) hr
    refine ⟨_, (pss_cons (ps_set (i := 1) nd rfl (.inl rfl) (pe_lst (pa_cons (pv 0) (pa_cons pe_int (pa_cons pe_int pa_nil)))))
      (pss_cons (ps_for PassesOwn.never rfl (pi_range1 (by rfl) B.range (pa_cons pe_int pa_nil)) (pg_name (i := 2) nd rfl (.inl rfl)) (pss_cons (ps_par (i := 3) (j := 4) (by rfl) nd rfl rfl (by decide) rfl rfl (pa_cons (p_call G.pace r2 (pa_cons (pv 1) pa_nil)) (pa_cons (pe_ix ix_list (pe_lst (pa_cons (p_call G.taken r1 (pa_cons (pv 1) (pa_cons pe_int pa_nil))) (pa_cons (p_call G.taken r1 (pa_cons (pv 1) (pa_cons pe_int pa_nil))) pa_nil))) (p_call G.taken r1 (pa_cons (pv 1) (pa_cons pe_int pa_nil))) (fun _ _ => rfl)) pa_nil)) (by rfl))
      (pss_cons (ps_set (i := 5) nd rfl (.inr rfl) (pe_op op_add pe_int (p_call G.taken r1 (pa_cons (pv 1) (pa_cons (pe_ix ix_list (pe_lst (pa_cons pe_int (pa_cons pe_int pa_nil))) (p_call G.taken r1 (pa_cons (pv 1) (pa_cons pe_int pa_nil))) (fun _ _ => rfl)) pa_nil)))))
      (pss_cons (ps_set (i := 6) nd rfl (.inr rfl) (pe_lst pa_nil))
      (pss_cons (ps_for PassesOwn.never rfl (pi_range1 (by rfl) B.range (pa_cons (p_call G.taken r1 (pa_cons (pv 1) (pa_cons (pe_ix ix_list (pe_lst (pa_cons pe_int (pa_cons pe_int pa_nil))) (p_call G.taken r1 (pa_cons (pv 1) (pa_cons pe_int pa_nil))) (fun _ _ => rfl)) pa_nil))) pa_nil)) (pg_name (i := 7) nd rfl (.inl rfl)) (pss_cons (ps_set (i := 8) nd rfl (.inl rfl) (pe_op op_fdiv (pe_op op_mul (pe_op op_sub (pe_op op_add (pe_op op_mul (pv 7) (pv 5)) (pv 5)) pe_int) (pe_ix ix_tup (pv 3) pe_int (fun _ _ => rfl))) (pe_ix ix_tup (pv 3) pe_int (fun _ _ => rfl))))
      (pss_cons (ps_set (i := 9) nd rfl (.inl rfl) (pe_lst (pa_cons (pe_op op_add (pv 8) (p_call G.taken r1 (pa_cons (pv 1) (pa_cons pe_int pa_nil)))) (pa_cons (p_call G.taken r1 (pa_cons (pv 1) (pa_cons pe_int pa_nil))) (pa_cons pe_int pa_nil)))))
      (pss_one (ps_expr (pe_bm PySem.F.plainAttrs_list PySem.F.slot_list_append PySem.F.type_list_append mt_append (pv 6) (pa_cons (pe_callB (call_min2 rfl) (by rfl) G.min PyProof.Rows.boot_min (pa_cons pe_int (pa_cons (pe_ix ix_list (pv 9) (pe_op op_fdiv (p_call G.taken r1 (pa_cons (pv 1) (pa_cons pe_int pa_nil))) pe_int) (fun _ _ => rfl)) pa_nil))) pa_nil)))))))
      (pss_cons (ps_set (i := 10) nd rfl (.inl rfl) (pe_lst pa_nil))
      (pss_cons (ps_set (i := 11) nd rfl (.inl rfl) (pe_op op_sub (pe_op op_mul (pv 5) (pe_callB call_len_seq (by rfl) B.len PySem.boot_len (pa_cons (pv 6) pa_nil))) pe_int))
      (pss_cons (ps_for PassesOwn.never rfl (pi_range2 (by rfl) B.range (pa_cons (pv 4) (pa_cons (pe_op op_add (pe_op op_add (pv 4) pe_int) (pe_op op_fdiv (pe_op op_mul (pe_callB (call_max2 rfl) (by rfl) B.max PyProof.Rows.boot_max (pa_cons pe_int (pa_cons (pv 11) pa_nil))) (pe_ix ix_tup (pv 3) pe_int (fun _ _ => rfl))) (pe_ix ix_tup (pv 3) pe_int (fun _ _ => rfl)))) pa_nil))) (pg_name (i := 12) nd rfl (.inr rfl)) hB)
      (pss_cons (ps_set (i := 16) nd rfl (.inl rfl) (pe_callTy call_list_of (by rfl) B.list PyProof.Rows.boot_list (pa_cons (pv 6) pa_nil)))
      (pss_one (ps_for PassesOwn.never rfl (pi_range1 (by rfl) B.range (pa_cons pe_int pa_nil)) (pg_name (i := 17) nd rfl (.inl rfl)) (pss_cons (ps_set (i := 18) nd rfl (.inl rfl) (p_call G.judged r3 (pa_cons (pv 3) (pa_cons (pv 4) (pa_cons (pv 5) (pa_cons (pv 16) pa_nil))))))
      (pss_cons (ps_if (PW.pt (pw_or (pt_not (pt_val (p_call G.alike1 r2 (pa_cons (pv 18) (pa_cons (pv 10) pa_nil))))) (pw_or1 (pt_cmpR (op_neD hu64) (pv 16) (pv 6) (nomark _))))) pss_never pss_nil)
      (pss_one (ps_expr (pe_bm PySem.F.plainAttrs_list PySem.F.slot_list_append PySem.F.type_list_append mt_append (pv 18) (pa_cons pe_int pa_nil)))))))))))))))))
      (pss_one (ps_ret pe_bl)))), ?_⟩
    refine ⟨_, rfl, by show 3 ≤ sizeLine; decide, fun r hr0 => ?_⟩
    have hsr : sc ≠ r ∨ ∀ H', SqL K H' sc (ns.map V.int) := by
      rcases hS with (q | ⟨o, q⟩) | q
      · exact .inl (ne_of_none q hr0)
      · exact .inl (ne_of_none q hr0)
      · exact .inr fun H' => .inr q
    refine ⟨4, rfl, by decide, by decide, for_range (n := 4) (fun i σ H' => ∃ x2 x3 x4 x5 x6 x7 x8 x9 x10 x11 x12 x13 x14 x15 x16 x17 x18, σ = [some (.ref sc), some (.ref r), x2, x3, x4, x5, x6, x7, x8, x9, x10, x11, x12, x13, x14, x15, x16, x17, x18, none] ∧ RowAt K H' r sc ns) ?_ ?_ ?_⟩
    · refine ⟨_, _, _, _, _, _, _, _, _, _, _, _, _, _, _, _, _, rfl, 0, 0, by decide, by decide, by decide, upd_same, seq_st hS (Stp.new hr0) (by simp), hsr⟩
    · rintro i σ H0 hi ⟨x2, x3, x4, x5, x6, x7, x8, x9, x10, x11, x12, x13, x14, x15, x16, x17, x18, rfl, hR0⟩
      walk_at "rd"
      refine ⟨r, sc, ns, rfl, hR0, fun pc H2 pn pb hpc pn0 pn1 pb0 pb1 hR2 s2 hpc2 => ?_⟩
      walk_at "rd"
      refine ⟨r, sc, ns, 9, rfl, hR2, by decide, fun l1 H3 l10 l11 hR3 s3 => ?_⟩
      walk_at "rd"
      refine ⟨r, sc, ns, 65, rfl, hR3, by decide, fun l2 H4 l20 l21 hR4 s4 => ?_⟩
      walk_at "rd"
      intro p hp
      have s5 := Stp.new (o := .lst [.int l1, .int l2]) hp
      have hpr := row_ne hR4 hp
      refine ⟨r, sc, ns, 2, rfl, row_new hR4 hp, by decide, fun c H6 c0 c1 hR6 s6 => ?_⟩
      have hl6 := s6.keep _ _ (upd_same (H := H4) (a := p) (o := .lst [.int l1, .int l2])) (by simpa using hpr)
      obtain ⟨wt, wt0, wt1, hwt⟩ : ∃ x : Int, 0 ≤ x ∧ x ≤ 64 ∧ atI [V.int l1, V.int l2] c = some (.int x) := by
        have hc : c = 0 ∨ c = 1 := by omega
        rcases hc with rfl | rfl
        · exact ⟨l1, by omega, by omega, rfl⟩
        · exact ⟨l2, by omega, by omega, rfl⟩
      refine ixL (.inl (.inl hl6)) hwt ?_
      have hpc6 := s6.tup _ _ (s5.tup _ _ (s4.tup _ _ (s3.tup _ _ hpc2)))
      walk_at "rd"
      intro pmm hpmm
      have samm := Stp.new (o := .lst [.int 3, .int 32]) hpmm
      have hnmm := row_ne hR6 hpmm
      refine ⟨r, sc, ns, 2, rfl, row_new hR6 hpmm, by decide, fun cmm Hbmm c0mm c1mm hRbmm sbmm => ?_⟩
      have hlmm := sbmm.keep _ _ (upd_same (H := H6) (a := pmm) (o := .lst [.int 3, .int 32])) (by simpa using hnmm)
      obtain ⟨xmm, x0mm, x1mm, hxmm⟩ : ∃ x : Int, 3 ≤ x ∧ x ≤ 32 ∧ atI [V.int 3, V.int 32] cmm = some (.int x) := by
        have hc : cmm = 0 ∨ cmm = 1 := by omega
        rcases hc with rfl | rfl
        · exact ⟨3, by decide, by decide, rfl⟩
        · exact ⟨32, by decide, by decide, rfl⟩
      refine ixL (.inl (.inl hlmm)) hxmm ?_
      refine ⟨r, sc, ns, xmm, rfl, hRbmm, by omega, fun mm H7 mm0 mm1' hR7 scmm => ?_⟩
      have s7 : Stp [r] H6 H7 := (samm.trans (sbmm.trans scmm)).sub (by simp)
      have mm1 : mm < 32 := by omega
      clear mm1' samm hnmm hRbmm sbmm hlmm hxmm x0mm x1mm scmm c0mm c1mm
      have hpc7 := s7.tup _ _ hpc6
      have hpn : 1 ≤ pn ∧ pn ≤ 8 := ⟨pn0, pn1⟩
      have hpb : 1 ≤ pb ∧ pb ≤ 8 := ⟨pb0, pb1⟩
      have hm : 1 ≤ 1 + mm ∧ 1 + mm ≤ 32 := ⟨by omega, by omega⟩
      clear hpc2 hR0 hR2 s2 hR3 s3 hR4 s4 s5 hR6 s6 hl6 hpc6 s7 hpc hp hpr hwt
      walk_at "rd"
      refine ⟨by decide, fun ar har0 => ?_⟩
      have s8 := Stp.new (o := .lst []) har0
      have hp8 := s8.tup _ _ hpc7
      have hR8 := row_new (o := .lst []) hR7 har0
      have hl8 : upd H7 ar (.lst []) ar = some (.lst []) := upd_same
      have harr := row_ne hR7 har0
      have hr7 : H7 r ≠ none := by
        obtain ⟨_, _, _, _, _, q, _⟩ := hR7
        rw [q]
        exact nofun
      generalize upd H7 ar (.lst []) = H8 at *
      refine ⟨_, rfl, by show 2 ≤ sizeLine; decide, fun pnn hpnn => ?_⟩
      have sann := Stp.new (o := .lst [.int 5, .int 31]) hpnn
      have hnnn := row_ne hR8 hpnn
      refine ⟨_, rfl, r, sc, ns, 2, rfl, row_new hR8 hpnn, by decide, fun cnn Hbnn c0nn c1nn hRbnn sbnn => ?_⟩
      have hlnn := sbnn.keep _ _ (upd_same (H := H8) (a := pnn) (o := .lst [.int 5, .int 31])) (by simpa using hnnn)
      obtain ⟨xnn, x0nn, x1nn, hxnn⟩ : ∃ x : Int, 5 ≤ x ∧ x ≤ 31 ∧ atI [V.int 5, V.int 31] cnn = some (.int x) := by
        have hc : cnn = 0 ∨ cnn = 1 := by omega
        rcases hc with rfl | rfl
        · exact ⟨5, by decide, by decide, rfl⟩
        · exact ⟨31, by decide, by decide, rfl⟩
      refine ixL (.inl (.inl hlnn)) hxnn ?_
      refine ⟨r, sc, ns, xnn, rfl, hRbnn, by omega, fun nn H9 nn0 nn1' hR9 scnn => ?_⟩
      have s9 : Stp [r] H8 H9 := (sann.trans (sbnn.trans scnn)).sub (by simp)
      have nn1 : nn < 31 := by omega
      clear nn1' sann hnnn hRbnn sbnn hlnn hxnn x0nn x1nn scnn c0nn c1nn
      have hp9 := s9.tup _ _ hp8
      have hl9 := s9.keep _ _ hl8 (by simpa using harr)
      refine ⟨nn, rfl, by omega, by omega, for_range (lo := 0) (n := nn.toNat) (fun j σ H' => ∃ x7 x8 x9 arr, σ = [some (.ref sc), some (.ref r), some (.int (0 + (i : Int))), some (.ref pc), some (.int wt), some (.int (1 + mm)), some (.ref ar), x7, x8, x9, x10, x11, x12, x13, x14, x15, x16, x17, x18, none] ∧ Stp [r, ar] H8 H' ∧ RowAt K H' r sc ns ∧ H' ar = some (.lst (arr.map V.int)) ∧ arr.length = j ∧ ∀ x ∈ arr, 0 ≤ x ∧ x ≤ 9999)
        ⟨_, _, _, [], rfl, s9.sub (by simp), hR9, hl9, rfl, by simp⟩ (fun j σ H' hj h => ?_) (fun σ H' h => ?_)⟩
      · obtain ⟨x7, x8, x9, arr, rfl, sj, hRj, hlj, hal, hai⟩ := h
        have hTj : TupAt K H' pc [.int pn, .int pb] := .inl (sj.tup _ _ hp8)
        walk_at "rd"
        refine ⟨.inr ⟨by omega, by omega⟩, ixT_1 hTj ⟨_, rfl, .inr ⟨by omega, by omega⟩, ixT_0 hTj ⟨_, rfl, ⟨by omega, by omega⟩, ?_⟩⟩⟩
        have hjm : 0 ≤ (0 + (j : Int)) * (1 + mm) := Int.mul_nonneg (by omega) (by omega)
        have hmd : 0 ≤ ((0 + (j : Int)) * (1 + mm) + (1 + mm) - 1) * pb / pn := Int.ediv_nonneg (Int.mul_nonneg (by omega) (by omega)) (by omega)
        generalize ((0 + (j : Int)) * (1 + mm) + (1 + mm) - 1) * pb / pn = md at *
        refine ⟨r, sc, ns, 40, rfl, hRj, by decide, fun t1 Ha t10 t11 hRa sa => ?_⟩
        refine ⟨_, rfl, ?_⟩
        refine ⟨r, sc, ns, 200, rfl, hRa, by decide, fun t2 Hb t20 t21 hRb sb => ?_⟩
        refine ⟨by show 3 ≤ sizeLine; decide, fun p hp => ?_⟩
        have sc' := Stp.new (o := .lst [.int (md + t1), .int t2, .int 9999]) hp
        have hlc : upd Hb p (.lst [.int (md + t1), .int t2, .int 9999]) p = some (.lst [.int (md + t1), .int t2, .int 9999]) := upd_same
        have hpr := row_ne hRb hp
        have hRc := row_new (o := .lst [.int (md + t1), .int t2, .int 9999]) hRb hp
        generalize upd Hb p (.lst [.int (md + t1), .int t2, .int 9999]) = Hc at *
        have tc : Stp [r] H' Hc := (sa.trans (sb.trans sc')).sub (by simp)
        have hlac := tc.keep _ _ hlj (by simpa using harr)
        refine ⟨.inl ⟨rfl, _, .inl (.inl hlac)⟩, ?_⟩
        refine ⟨r, sc, ns, 9, rfl, hRc, by decide, fun t3 Hd t30 t31 hRd sd => ?_⟩
        have hld := sd.keep _ _ hlc (by simpa using hpr)
        have hlad := sd.keep _ _ hlac (by simpa using harr)
        obtain ⟨y, y0, hy⟩ : ∃ y : Int, 0 ≤ y ∧ atI [V.int (md + t1), V.int t2, V.int 9999] (t3 / 4) = some (.int y) := by
          have hc : t3 / 4 = 0 ∨ t3 / 4 = 1 ∨ t3 / 4 = 2 := by omega
          rcases hc with e | e | e <;> rw [e]
          · exact ⟨md + t1, by omega, rfl⟩
          · exact ⟨t2, t20, rfl⟩
          · exact ⟨9999, by decide, rfl⟩
        refine ⟨_, rfl, ⟨by omega, by omega⟩, ixL (.inl (.inl hld)) hy ⟨_, rfl, ar, _, _, rfl, rfl, hlad, ?_, ?_⟩⟩
        · rw [List.length_map]
          exact Nat.lt_of_le_of_lt (show _ ≤ 100000 by omega) (by decide)
        obtain ⟨z, hz0, hz1, hz⟩ : ∃ z : Int, 0 ≤ z ∧ z ≤ 9999 ∧ (if y < 9999 then y else 9999) = z := by
          split
          · exact ⟨y, y0, by omega, rfl⟩
          · exact ⟨9999, by decide, by decide, rfl⟩
        rw [hz]
        have sP := Stp.put (o := .lst (arr.map V.int ++ [.int z])) hlad (fun xs z => nomatch z)
        have sF : Stp [r, ar] H8 (upd Hd ar (.lst (arr.map V.int ++ [.int z]))) := (sj.trans (tc.trans (sd.trans sP))).sub (by simp)
        refine ⟨sF, ?_, arr ++ [z], ?_, ?_, ?_⟩
        · exact row_mv hR7 hRd sP (by simpa using harr.symm) ((s8.trans sF).subN fun b hb => by
            simp only [List.mem_append, List.mem_cons, List.not_mem_nil, or_false, false_or] at hb
            rcases hb with e | e
            · exact .inl (by simp [e])
            · exact .inr (e ▸ har0))
        · rw [upd_same, List.map_append]
          rfl
        · rw [List.length_append, hal]
          rfl
        · intro x hx
          rcases List.mem_append.mp hx with e | e
          · exact hai x e
          · rw [List.mem_singleton.mp e]
            exact ⟨hz0, hz1⟩
      · obtain ⟨x7, x8, x9, arr, rfl, sj, hRj, hlj, hal, hai⟩ := h
        have hpj := sj.tup _ _ hp8
        have hTj : TupAt K H' pc [.int pn, .int pb] := .inl hpj
        walk_at "rd"
        refine ⟨by decide, fun du hdu0 => ?_⟩
        have hA : Arr arr := ⟨by omega, hai⟩
        have sU := Stp.new (o := .lst []) hdu0
        have hu : upd H' du (.lst []) du = some (.lst []) := upd_same
        have had : ar ≠ du := ne_of_none hlj hdu0
        have hdr := row_ne hRj hdu0
        have hRu := row_new (o := .lst []) hRj hdu0
        have hlu := sU.keep _ _ hlj (by simp)
        have tU : Stp [r, ar] H8 (upd H' du (.lst [])) := (sj.trans sU).sub (by simp)
        generalize upd H' du (.lst []) = Hu at *
        have hpu := sU.tup _ _ hpj
        have hTu : TupAt K Hu pc [.int pn, .int pb] := .inl hpu
        have hM1 : 0 ≤ (1 + mm) * (arr.length : Int) := Int.mul_nonneg (by omega) (by omega)
        have hM2 : (1 + mm) * (arr.length : Int) ≤ 32 * 30 := Int.mul_le_mul hm.2 (by omega) (by omega) (by decide)
        refine ⟨_, .inl (.inl (.inl hlu)), .inr ⟨by rw [List.length_map]; omega, by rw [List.length_map]; omega⟩, ?_⟩
        rw [List.length_map]
        obtain ⟨last, hlast⟩ : ∃ last, last = (1 + mm) * (arr.length : Int) - 1 := ⟨_, rfl⟩
        rw [← hlast]
        have hX0 : 0 ≤ max 0 last * pb / pn := Int.ediv_nonneg (Int.mul_nonneg (by omega) (by omega)) (by omega)
        have hX1 : max 0 last * pb ≤ 960 * 8 := Int.mul_le_mul (by omega) (by omega) (by omega) (by decide)
        have hX2 : max 0 last * pb / pn ≤ 7680 := Int.le_trans (Int.ediv_le_self _ (Int.mul_nonneg (by omega) (by omega))) (by omega)
        have htop := lastN_top (last := last) hpn hpb
        have hmx : (if last > 0 then last else 0) = max 0 last := by split <;> omega
        refine ⟨_, rfl, _, rfl, _, _, rfl, rfl, _, rfl, _, _, rfl, tix_1 rfl hTu ?_⟩
        refine ⟨_, _, rfl, rfl, .inr ⟨by omega, by omega⟩, tix_0 rfl hTu ?_⟩
        refine ⟨_, _, rfl, rfl, ⟨by omega, by omega⟩, _, _, rfl, rfl, ?_⟩
        rw [hmx]
        have eN : wt + 1 + max 0 last * pb / pn - wt = 1 + max 0 last * pb / pn := by omega
        refine ⟨_, _, rfl, ⟨by omega, by omega, by omega, by omega⟩, for_range (lo := wt) (fun q σ H2 => ∃ x12 x13 x14 x15, σ = [some (.ref sc), some (.ref r), some (.int (0 + (i : Int))), some (.ref pc), some (.int wt), some (.int (1 + mm)), some (.ref ar), x7, x8, x9, some (.ref du), some (.int last), x12, x13, x14, x15, x16, x17, x18, none] ∧ Stp [du] Hu H2 ∧ H2 du = some (.lst ((dueN arr pn pb (1 + mm) wt last q).map V.int)))
          ⟨_, _, _, _, rfl, Stp.refl.sub (by simp), hu⟩ (fun q σ H2 hq h => ?_) (fun σ H2 h => ?_)⟩
        · obtain ⟨x12, x13, x14, x15, rfl, s2, hd2⟩ := h
          have hql : (q : Int) < 1 + max 0 last * pb / pn := by omega
          have hdl := dueN_len arr pn pb (1 + mm) wt last q
          refine qB _ H2 sc r pc ar du _ _ _ _ _ _ _ _ _ _ pn pb wt (1 + mm) last (q : Int) arr _ (s2.tup _ _ hpu) (s2.keep _ _ hlu (by simpa using had)) hd2 had hpn hpb hm hlast hA.len (by omega) (by omega) (by omega) fun H3 y13 y14 y15 s3 h3 => ?_
          · refine ⟨_, _, _, _, rfl, (s2.trans s3).sub (by simp), ?_⟩
            rw [dueN_succ]
            exact h3
        · obtain ⟨x12, x13, x14, x15, rfl, s2, hd2⟩ := h
          rw [eN] at hd2
          have hl2 := s2.keep _ _ hlu (by simpa using had)
          have hp2 := s2.tup _ _ hpu
          have hdu7 : H7 du = none := (s8.trans sj).free hdu0 (by simp [hdr, had.symm])
          have hR2 : RowAt K H2 r sc ns := row_mv hR7 hRu s2 (by simpa using hdr.symm) ((s8.trans (tU.trans s2)).subN fun b hb => by
            simp only [List.mem_append, List.mem_cons, List.not_mem_nil, or_false, false_or] at hb
            rcases hb with (e | e) | e
            · exact .inl (by simp [e])
            · exact .inr (e ▸ har0)
            · exact .inr (e ▸ hdu7))
          walk_at "rd"
          refine ⟨_, .inl (.inl (.inl hl2)), fun hd hhd => ?_⟩
          have s3 := Stp.new (o := .lst (arr.map V.int)) hhd
          have hh3 : upd H2 hd (.lst (arr.map V.int)) hd = some (.lst (arr.map V.int)) := upd_same
          generalize upd H2 hd (.lst (arr.map V.int)) = H3 at *
          refine ⟨2, rfl, by decide, by decide, for_range (lo := 0) (n := 2) (fun j σ H4 => ∃ x17 x18, σ = [some (.ref sc), some (.ref r), some (.int (0 + (i : Int))), some (.ref pc), some (.int wt), some (.int (1 + mm)), some (.ref ar), x7, x8, x9, some (.ref du), some (.int last), x12, x13, x14, x15, some (.ref hd), x17, x18, none] ∧ Stp [] H3 H4) ⟨_, _, rfl, Stp.refl⟩ (fun j σ H4 hj h => ?_) (fun σ H4 h => ?_)⟩
          · obtain ⟨x17, x18, rfl, s4⟩ := h
            walk_at "rd"
            have hh4 := s4.keep _ _ hh3 (by simp)
            refine ⟨pc, hd, pn, pb, wt, 1 + mm, arr, rfl, s4.tup _ _ (s3.tup _ _ hp2), .inl (.inl hh4), hpn, hpb, ⟨wt0, wt1⟩, hm, hA, fun T m H5 hm0 s5 hl5 hT9 hlt hge => ?_⟩
            have ej := due_jud (arr := arr) (many := 1 + mm) (wt := wt) (last := last) (N := (1 + max 0 last * pb / pn).toNat) (T := T) pn0 hpb (fun p hp => by have := hlt p hp; omega) (by omega) (by rw [Int.toNat_of_nonneg (by omega)]; exact htop)
            have hjl := judN_len arr pn pb (1 + mm) wt T
            rw [← ej] at hd2
            have hd5 := s5.keep _ _ (s4.keep _ _ (s3.keep _ _ hd2 (by simp)) (by simp)) (by simp)
            have hh5 := s5.keep _ _ hh4 (by simp)
            have hl5' := s5.keep _ _ (s4.keep _ _ (s3.keep _ _ hl2 (by simp)) (by simp)) (by simp)
            refine ⟨.ref m, .ref du, rfl, .inr ⟨m, du, _, _, rfl, rfl, .inr ⟨hl5, hd5⟩, by rw [List.length_map]; omega, ints_refl _⟩, fun H6 s6 => ?_⟩
            walk_at "rd"
            have hl6 := s6.keep _ _ hl5 (by simp)
            refine ne_T (n := 1) (.inr ⟨hd, ar, _, _, rfl, rfl, .inr ⟨s6.keep _ _ hh5 (by simp), s6.keep _ _ hl5' (by simp)⟩, by rw [List.length_map]; have := hA.len; omega, ints_refl _⟩) (by decide) ⟨_, rfl, iteF ⟨.inl ⟨rfl, _, .inl (.inl hl6)⟩, m, _, _, rfl, rfl, hl6, ?_, ?_⟩⟩
            · rw [List.length_map]
              exact Nat.lt_of_le_of_lt (show _ ≤ 100000 by omega) (by decide)
            · exact (s4.trans ((s5.trans s6).trans (Stp.put hl6 (fun xs z => nomatch z)))).subN fun b hb => .inr (by
                have : b = m := by simpa using hb
                rw [this]
                exact s4.free hm0 (by simp))
          · obtain ⟨x17, x18, rfl, s4⟩ := h
            exact ⟨⟨_, _, _, _, _, _, _, _, _, _, _, _, _, _, _, _, _, rfl⟩, hR2.st0 (s3.trans s4)⟩
    · rintro σ H0 ⟨x2, x3, x4, x5, x6, x7, x8, x9, x10, x11, x12, x13, x14, x15, x16, x17, x18, rfl, hR0⟩
      exact k H0
end
end Mx

namespace Mx
open PySem L2
theorem all_mk {l : PySem.W.OpenLaw} {w : World} {K : PySem.W.Frag} {h : Heap} {mg : Str → Option Value} {fa f_is_whole f_check_pace f_check_wait f_check_many f_spot f_wanted f_check_arrivals f_judged f_law_taken f_law_pace f_law_alike f_law : Addr} (X : K.In h) (G : h.Ns mainGlobals mg) (hfa : mg "law" = some (.ref fa))
    {od_is_whole an_is_whole od_check_pace an_check_pace od_check_wait an_check_wait od_check_many an_check_many od_spot an_spot od_wanted an_wanted od_check_arrivals an_check_arrivals od_judged an_judged od_law_taken an_law_taken od_law_pace an_law_pace od_law_alike an_law_alike od_law an_law : Option Addr} {sl_is_whole sl_check_pace sl_check_wait sl_check_many sl_spot sl_wanted sl_check_arrivals sl_judged sl_law_taken sl_law_pace sl_law_alike sl_law : Array (Option Value)}
    {oc_is_whole kV_is_whole dc_is_whole pm_is_whole cd_is_whole ct_is_whole oc_check_pace kV_check_pace dc_check_pace pm_check_pace cd_check_pace ct_check_pace oc_check_wait kV_check_wait dc_check_wait pm_check_wait cd_check_wait ct_check_wait oc_check_many kV_check_many dc_check_many pm_check_many cd_check_many ct_check_many oc_spot kV_spot dc_spot pm_spot cd_spot ct_spot oc_wanted kV_wanted dc_wanted pm_wanted cd_wanted ct_wanted oc_check_arrivals kV_check_arrivals dc_check_arrivals pm_check_arrivals cd_check_arrivals ct_check_arrivals oc_judged kV_judged dc_judged pm_judged cd_judged ct_judged oc_law_taken kV_law_taken dc_law_taken pm_law_taken cd_law_taken ct_law_taken oc_law_pace kV_law_pace dc_law_pace pm_law_pace cd_law_pace ct_law_pace oc_law_alike kV_law_alike dc_law_alike pm_law_alike cd_law_alike ct_law_alike oc_law kV_law dc_law pm_law cd_law ct_law : Value} {t_MOST_ARRIVALS : Tok}
    (a_is_whole : PySem.W.nsIn K mainGlobals "is_whole" = some (some (.ref f_is_whole)))
    (l_is_whole : K.lookup f_is_whole = some ⟨oc_is_whole, od_is_whole, .func (PySem.W.fnOf "is_whole" "is_whole" (defArgs s_is_whole) (defBody s_is_whole) (defScope s_is_whole) .none kV_is_whole dc_is_whole pm_is_whole an_is_whole cd_is_whole ct_is_whole), sl_is_whole⟩)
    (c_is_whole : PySem.W.codeIn K cd_is_whole "is_whole" = true)
    (k_is_whole : PySem.W.keepIn K (.ref f_is_whole) = true)
    (a_check_pace : PySem.W.nsIn K mainGlobals "check_pace" = some (some (.ref f_check_pace)))
    (l_check_pace : K.lookup f_check_pace = some ⟨oc_check_pace, od_check_pace, .func (PySem.W.fnOf "check_pace" "check_pace" (defArgs s_check_pace) (defBody s_check_pace) (defScope s_check_pace) .none kV_check_pace dc_check_pace pm_check_pace an_check_pace cd_check_pace ct_check_pace), sl_check_pace⟩)
    (c_check_pace : PySem.W.codeIn K cd_check_pace "check_pace" = true)
    (k_check_pace : PySem.W.keepIn K (.ref f_check_pace) = true)
    (a_check_wait : PySem.W.nsIn K mainGlobals "check_wait" = some (some (.ref f_check_wait)))
    (l_check_wait : K.lookup f_check_wait = some ⟨oc_check_wait, od_check_wait, .func (PySem.W.fnOf "check_wait" "check_wait" (defArgs s_check_wait) (defBody s_check_wait) (defScope s_check_wait) .none kV_check_wait dc_check_wait pm_check_wait an_check_wait cd_check_wait ct_check_wait), sl_check_wait⟩)
    (c_check_wait : PySem.W.codeIn K cd_check_wait "check_wait" = true)
    (k_check_wait : PySem.W.keepIn K (.ref f_check_wait) = true)
    (a_check_many : PySem.W.nsIn K mainGlobals "check_many" = some (some (.ref f_check_many)))
    (l_check_many : K.lookup f_check_many = some ⟨oc_check_many, od_check_many, .func (PySem.W.fnOf "check_many" "check_many" (defArgs s_check_many) (defBody s_check_many) (defScope s_check_many) .none kV_check_many dc_check_many pm_check_many an_check_many cd_check_many ct_check_many), sl_check_many⟩)
    (c_check_many : PySem.W.codeIn K cd_check_many "check_many" = true)
    (k_check_many : PySem.W.keepIn K (.ref f_check_many) = true)
    (a_spot : PySem.W.nsIn K mainGlobals "spot" = some (some (.ref f_spot)))
    (l_spot : K.lookup f_spot = some ⟨oc_spot, od_spot, .func (PySem.W.fnOf "spot" "spot" (defArgs s_spot) (defBody s_spot) (defScope s_spot) .none kV_spot dc_spot pm_spot an_spot cd_spot ct_spot), sl_spot⟩)
    (c_spot : PySem.W.codeIn K cd_spot "spot" = true)
    (k_spot : PySem.W.keepIn K (.ref f_spot) = true)
    (a_wanted : PySem.W.nsIn K mainGlobals "wanted" = some (some (.ref f_wanted)))
    (l_wanted : K.lookup f_wanted = some ⟨oc_wanted, od_wanted, .func (PySem.W.fnOf "wanted" "wanted" (defArgs s_wanted) (defBody s_wanted) (defScope s_wanted) .none kV_wanted dc_wanted pm_wanted an_wanted cd_wanted ct_wanted), sl_wanted⟩)
    (c_wanted : PySem.W.codeIn K cd_wanted "wanted" = true)
    (k_wanted : PySem.W.keepIn K (.ref f_wanted) = true)
    (a_check_arrivals : PySem.W.nsIn K mainGlobals "check_arrivals" = some (some (.ref f_check_arrivals)))
    (l_check_arrivals : K.lookup f_check_arrivals = some ⟨oc_check_arrivals, od_check_arrivals, .func (PySem.W.fnOf "check_arrivals" "check_arrivals" (defArgs s_check_arrivals) (defBody s_check_arrivals) (defScope s_check_arrivals) .none kV_check_arrivals dc_check_arrivals pm_check_arrivals an_check_arrivals cd_check_arrivals ct_check_arrivals), sl_check_arrivals⟩)
    (c_check_arrivals : PySem.W.codeIn K cd_check_arrivals "check_arrivals" = true)
    (k_check_arrivals : PySem.W.keepIn K (.ref f_check_arrivals) = true)
    (a_judged : PySem.W.nsIn K mainGlobals "judged" = some (some (.ref f_judged)))
    (l_judged : K.lookup f_judged = some ⟨oc_judged, od_judged, .func (PySem.W.fnOf "judged" "judged" (defArgs s_judged) (defBody s_judged) (defScope s_judged) .none kV_judged dc_judged pm_judged an_judged cd_judged ct_judged), sl_judged⟩)
    (c_judged : PySem.W.codeIn K cd_judged "judged" = true)
    (k_judged : PySem.W.keepIn K (.ref f_judged) = true)
    (a_law_taken : PySem.W.nsIn K mainGlobals "_law_taken" = some (some (.ref f_law_taken)))
    (l_law_taken : K.lookup f_law_taken = some ⟨oc_law_taken, od_law_taken, .func (PySem.W.fnOf "_law_taken" "_law_taken" (defArgs s_law_taken) (defBody s_law_taken) (defScope s_law_taken) .none kV_law_taken dc_law_taken pm_law_taken an_law_taken cd_law_taken ct_law_taken), sl_law_taken⟩)
    (c_law_taken : PySem.W.codeIn K cd_law_taken "_law_taken" = true)
    (k_law_taken : PySem.W.keepIn K (.ref f_law_taken) = true)
    (a_law_pace : PySem.W.nsIn K mainGlobals "_law_pace" = some (some (.ref f_law_pace)))
    (l_law_pace : K.lookup f_law_pace = some ⟨oc_law_pace, od_law_pace, .func (PySem.W.fnOf "_law_pace" "_law_pace" (defArgs s_law_pace) (defBody s_law_pace) (defScope s_law_pace) .none kV_law_pace dc_law_pace pm_law_pace an_law_pace cd_law_pace ct_law_pace), sl_law_pace⟩)
    (c_law_pace : PySem.W.codeIn K cd_law_pace "_law_pace" = true)
    (k_law_pace : PySem.W.keepIn K (.ref f_law_pace) = true)
    (a_law_alike : PySem.W.nsIn K mainGlobals "_law_alike" = some (some (.ref f_law_alike)))
    (l_law_alike : K.lookup f_law_alike = some ⟨oc_law_alike, od_law_alike, .func (PySem.W.fnOf "_law_alike" "_law_alike" (defArgs s_law_alike) (defBody s_law_alike) (defScope s_law_alike) .none kV_law_alike dc_law_alike pm_law_alike an_law_alike cd_law_alike ct_law_alike), sl_law_alike⟩)
    (c_law_alike : PySem.W.codeIn K cd_law_alike "_law_alike" = true)
    (k_law_alike : PySem.W.keepIn K (.ref f_law_alike) = true)
    (a_law : PySem.W.nsIn K mainGlobals "law" = some (some (.ref f_law)))
    (l_law : K.lookup f_law = some ⟨oc_law, od_law, .func (PySem.W.fnOf "law" "law" (defArgs s_law) (defBody s_law) (defScope s_law) .none kV_law dc_law pm_law an_law cd_law ct_law), sl_law⟩)
    (c_law : PySem.W.codeIn K cd_law "law" = true)
    (k_law : PySem.W.keepIn K (.ref f_law) = true)
    (z_isinstance : PySem.W.nsIn K mainGlobals "isinstance" = some none)
    (z_bool : PySem.W.nsIn K mainGlobals "bool" = some none)
    (z_int : PySem.W.nsIn K mainGlobals "int" = some none)
    (z_tuple : PySem.W.nsIn K mainGlobals "tuple" = some none)
    (z_len : PySem.W.nsIn K mainGlobals "len" = some none)
    (z_all : PySem.W.nsIn K mainGlobals "all" = some none)
    (z_any : PySem.W.nsIn K mainGlobals "any" = some none)
    (z_min : PySem.W.nsIn K mainGlobals "min" = some none)
    (z_max : PySem.W.nsIn K mainGlobals "max" = some none)
    (z_divmod : PySem.W.nsIn K mainGlobals "divmod" = some none)
    (z_enumerate : PySem.W.nsIn K mainGlobals "enumerate" = some none)
    (z_sorted : PySem.W.nsIn K mainGlobals "sorted" = some none)
    (z_list : PySem.W.nsIn K mainGlobals "list" = some none)
    (z_range : PySem.W.nsIn K mainGlobals "range" = some none)
    (z_abs : PySem.W.nsIn K mainGlobals "abs" = some none)
    (z_str : PySem.W.nsIn K mainGlobals "str" = some none)
    (v_MOST_ARRIVALS : PySem.W.nsIn K mainGlobals "MOST_ARRIVALS" = some (some (.int 30 t_MOST_ARRIVALS))) :
    ∃ fd : FuncData, (∀ (s : Shared) (v : Value), BindsTo s fd ⟨[v], []⟩ [("_law_script", v)]) ∧ ∀ base : Heap, K.In base → base.Ns mainGlobals mg → FnOk l.prog w K mg base CX0 4 fa fd ["_law_script"] (sp_law K) := by
  have e := hfa.symm.trans (PySem.W.mg_of X G a_law)
  cases e
  have B : Blt mg := ⟨PySem.W.mg_none_of X G z_isinstance, PySem.W.mg_none_of X G z_bool, PySem.W.mg_none_of X G z_int, PySem.W.mg_none_of X G z_tuple, PySem.W.mg_none_of X G z_len, PySem.W.mg_none_of X G z_all, PySem.W.mg_none_of X G z_any, PySem.W.mg_none_of X G z_max, PySem.W.mg_none_of X G z_divmod, PySem.W.mg_none_of X G z_enumerate, PySem.W.mg_none_of X G z_sorted, PySem.W.mg_none_of X G z_list, PySem.W.mg_none_of X G z_range, PySem.W.mg_none_of X G z_abs, PySem.W.mg_none_of X G z_str⟩
  have hMA := PySem.W.mg_of X G v_MOST_ARRIVALS
  have F_is_whole := fun_mk (st := s_is_whole) l_is_whole c_is_whole k_is_whole
  have b_is_whole := F_is_whole.binds (ps := ["number", "low", "high"]) fun _ _ _ _ _ _ us hl => match us, hl with | [_, _, _], _ => rfl
  have F_check_pace := fun_mk (st := s_check_pace) l_check_pace c_check_pace k_check_pace
  have b_check_pace := F_check_pace.binds (ps := ["pace"]) fun _ _ _ _ _ _ us hl => match us, hl with | [_], _ => rfl
  have F_check_wait := fun_mk (st := s_check_wait) l_check_wait c_check_wait k_check_wait
  have b_check_wait := F_check_wait.binds (ps := ["wait"]) fun _ _ _ _ _ _ us hl => match us, hl with | [_], _ => rfl
  have F_check_many := fun_mk (st := s_check_many) l_check_many c_check_many k_check_many
  have b_check_many := F_check_many.binds (ps := ["many"]) fun _ _ _ _ _ _ us hl => match us, hl with | [_], _ => rfl
  have F_spot := fun_mk (st := s_spot) l_spot c_spot k_spot
  have b_spot := F_spot.binds (ps := ["pace", "passed"]) fun _ _ _ _ _ _ us hl => match us, hl with | [_, _], _ => rfl
  have F_wanted := fun_mk (st := s_wanted) l_wanted c_wanted k_wanted
  have b_wanted := F_wanted.binds (ps := ["pace", "passed"]) fun _ _ _ _ _ _ us hl => match us, hl with | [_, _], _ => rfl
  have F_check_arrivals := fun_mk (st := s_check_arrivals) l_check_arrivals c_check_arrivals k_check_arrivals
  have b_check_arrivals := F_check_arrivals.binds (ps := ["arrivals"]) fun _ _ _ _ _ _ us hl => match us, hl with | [_], _ => rfl
  have F_judged := fun_mk (st := s_judged) l_judged c_judged k_judged
  have b_judged := F_judged.binds (ps := ["pace", "wait", "many", "arrivals"]) fun _ _ _ _ _ _ us hl => match us, hl with | [_, _, _, _], _ => rfl
  have F_law_taken := fun_mk (st := s_law_taken) l_law_taken c_law_taken k_law_taken
  have b_law_taken := F_law_taken.binds (ps := ["_law_row", "_law_many"]) fun _ _ _ _ _ _ us hl => match us, hl with | [_, _], _ => rfl
  have F_law_pace := fun_mk (st := s_law_pace) l_law_pace c_law_pace k_law_pace
  have b_law_pace := F_law_pace.binds (ps := ["_law_row"]) fun _ _ _ _ _ _ us hl => match us, hl with | [_], _ => rfl
  have F_law_alike := fun_mk (st := s_law_alike) l_law_alike c_law_alike k_law_alike
  have b_law_alike := F_law_alike.binds (ps := ["_law_found", "_law_due"]) fun _ _ _ _ _ _ us hl => match us, hl with | [_, _], _ => rfl
  have F_law := fun_mk (st := s_law) l_law c_law k_law
  refine ⟨PySem.W.fnOf "law" "law" (defArgs s_law) (defBody s_law) (defScope s_law) .none kV_law dc_law pm_law an_law cd_law ct_law, fun s v => .of_eq rfl, fun base _ _ => ?_⟩
  have G_is_whole : OwnF l.prog w K mg base "is_whole" 1 ["number", "low", "high"] sp_is_whole := ⟨_, _, ok_is_whole F_is_whole B, PySem.W.mg_of X G a_is_whole, k_is_whole, b_is_whole⟩
  have G_check_pace : OwnF l.prog w K mg base "check_pace" 2 ["pace"] sp_check_pace := ⟨_, _, ok_check_pace F_check_pace B G_is_whole, PySem.W.mg_of X G a_check_pace, k_check_pace, b_check_pace⟩
  have G_check_wait : OwnF l.prog w K mg base "check_wait" 2 ["wait"] (sp_in 0 64) := ⟨_, _, ok_check_wait F_check_wait G_is_whole, PySem.W.mg_of X G a_check_wait, k_check_wait, b_check_wait⟩
  have G_check_many : OwnF l.prog w K mg base "check_many" 2 ["many"] (sp_in 1 32) := ⟨_, _, ok_check_many F_check_many G_is_whole, PySem.W.mg_of X G a_check_many, k_check_many, b_check_many⟩
  have G_spot : OwnF l.prog w K mg base "spot" 1 ["pace", "passed"] sp_spot := ⟨_, _, ok_spot F_spot B, PySem.W.mg_of X G a_spot, k_spot, b_spot⟩
  have G_wanted : OwnF l.prog w K mg base "wanted" 2 ["pace", "passed"] sp_wanted := ⟨_, _, ok_wanted F_wanted G_spot, PySem.W.mg_of X G a_wanted, k_wanted, b_wanted⟩
  have G_check_arrivals : OwnF l.prog w K mg base "check_arrivals" 2 ["arrivals"] (sp_check_arrivals K) := ⟨_, _, ok_check_arrivals F_check_arrivals B hMA G_is_whole, PySem.W.mg_of X G a_check_arrivals, k_check_arrivals, b_check_arrivals⟩
  have G_judged : OwnF l.prog w K mg base "judged" 3 ["pace", "wait", "many", "arrivals"] (sp_judged K) := ⟨_, _, ok_judged F_judged B G_check_pace G_check_wait G_check_many G_check_arrivals G_wanted, PySem.W.mg_of X G a_judged, k_judged, b_judged⟩
  have G_law_taken : OwnF l.prog w K mg base "_law_taken" 1 ["_law_row", "_law_many"] (sp_taken K) := ⟨_, _, ok_law_taken F_law_taken B, PySem.W.mg_of X G a_law_taken, k_law_taken, b_law_taken⟩
  have G_law_pace : OwnF l.prog w K mg base "_law_pace" 2 ["_law_row"] (sp_law_pace K) := ⟨_, _, ok_law_pace F_law_pace G_law_taken, PySem.W.mg_of X G a_law_pace, k_law_pace, b_law_pace⟩
  have G_alikeD : ∀ n, OwnF l.prog w K mg base "_law_alike" (n + 1) ["_law_found", "_law_due"] (sp_eq K n) := fun n => ⟨_, _, ok_alike_deep F_law_alike B (PySem.W.mg_of X G a_law_alike) k_law_alike b_law_alike n, PySem.W.mg_of X G a_law_alike, k_law_alike, b_law_alike⟩
  exact ok_law B ⟨PySem.W.mg_none_of X G z_min, G_law_taken, G_law_pace, G_judged, G_alikeD 1⟩ F_law
theorem walk {l : PySem.W.OpenLaw} {q : Program} {loose : List Str} {XP : (Str → Option Value) → Heap → Prop} {YP : World → Heap → Prop} {d : DefRec} {K : Params → PySem.W.Frag} (hn : l.most = some 63) (hdf : d.params.defaults = [])
    (hY : ∀ (w : World) (h : Heap), YP w h → (K w.params).In h)
    (F : ∀ (w : World) (mg : Str → Option Value) (fa : Addr) (h : Heap), (K w.params).In h → h.Ns mainGlobals mg → mg d.name = some (.ref fa) →
      ∃ fd : FuncData, (∀ (s : Shared) (u : Value), BindsTo s fd ⟨[u], []⟩ [("_law_script", u)]) ∧ ∀ base : Heap, (K w.params).In base → base.Ns mainGlobals mg → FnOk l.prog w (K w.params) mg base CX0 4 fa fd ["_law_script"] (sp_law (K w.params))) :
    PySem.W.WalkO q loose XP YP l.row.toRowW d [] (fun f vs => PySem.call f vs) :=
  L2.walk_of (n := 63) (k := 4) (x := "_law_script") (CX := fun _ => CX0) (sp := fun w => sp_law (K w.params)) hn (by decide) hdf ⟨rfl, by decide, by decide⟩ hY F (fun _ _ a ns hl _ hS => ⟨a, ns, rfl, hS, hl, fun _ => rfl⟩) fun _ _ _ _ _ z => z
end Mx

open PySem PySem.W PyProof.Rows
set_option maxRecDepth 100000 in
set_option maxHeartbeats 0 in
theorem PySem.Challenge.cw_mixserver_k09_arrivals_judged_holds : PySem.Challenge.rw_mixserver_k09_arrivals_judged.Holds := by
  w_on; o_law; k_head; (case hw => w_witness2)
  k_fill
  refine Mx.walk (l := PySem.Challenge.rw_mixserver_k09_arrivals_judged) rfl rfl (fun w h Y => PySem.W.kIn_of Y) ?F
  case F =>
    intro w mg fa h KX G hmg
    refine' Mx.all_mk KX G hmg ?a_is_whole ?l_is_whole ?c_is_whole ?k_is_whole ?a_check_pace ?l_check_pace ?c_check_pace ?k_check_pace ?a_check_wait ?l_check_wait ?c_check_wait ?k_check_wait ?a_check_many ?l_check_many ?c_check_many ?k_check_many ?a_spot ?l_spot ?c_spot ?k_spot ?a_wanted ?l_wanted ?c_wanted ?k_wanted ?a_check_arrivals ?l_check_arrivals ?c_check_arrivals ?k_check_arrivals ?a_judged ?l_judged ?c_judged ?k_judged ?a_law_taken ?l_law_taken ?c_law_taken ?k_law_taken ?a_law_pace ?l_law_pace ?c_law_pace ?k_law_pace ?a_law_alike ?l_law_alike ?c_law_alike ?k_law_alike ?a_law ?l_law ?c_law ?k_law ?z_isinstance ?z_bool ?z_int ?z_tuple ?z_len ?z_all ?z_any ?z_min ?z_max ?z_divmod ?z_enumerate ?z_sorted ?z_list ?z_range ?z_abs ?z_str ?v_MOST_ARRIVALS
    (case a_is_whole => k_is)
    (case l_is_whole => k_is)
    (case c_is_whole => k_is)
    (case k_is_whole => k_is)
    (case a_check_pace => k_is)
    (case l_check_pace => k_is)
    (case c_check_pace => k_is)
    (case k_check_pace => k_is)
    (case a_check_wait => k_is)
    (case l_check_wait => k_is)
    (case c_check_wait => k_is)
    (case k_check_wait => k_is)
    (case a_check_many => k_is)
    (case l_check_many => k_is)
    (case c_check_many => k_is)
    (case k_check_many => k_is)
    (case a_spot => k_is)
    (case l_spot => k_is)
    (case c_spot => k_is)
    (case k_spot => k_is)
    (case a_wanted => k_is)
    (case l_wanted => k_is)
    (case c_wanted => k_is)
    (case k_wanted => k_is)
    (case a_check_arrivals => k_is)
    (case l_check_arrivals => k_is)
    (case c_check_arrivals => k_is)
    (case k_check_arrivals => k_is)
    (case a_judged => k_is)
    (case l_judged => k_is)
    (case c_judged => k_is)
    (case k_judged => k_is)
    (case a_law_taken => k_is)
    (case l_law_taken => k_is)
    (case c_law_taken => k_is)
    (case k_law_taken => k_is)
    (case a_law_pace => k_is)
    (case l_law_pace => k_is)
    (case c_law_pace => k_is)
    (case k_law_pace => k_is)
    (case a_law_alike => k_is)
    (case l_law_alike => k_is)
    (case c_law_alike => k_is)
    (case k_law_alike => k_is)
    (case a_law => k_is)
    (case l_law => k_is)
    (case c_law => k_is)
    (case k_law => k_is)
    (case z_isinstance => k_is)
    (case z_bool => k_is)
    (case z_int => k_is)
    (case z_tuple => k_is)
    (case z_len => k_is)
    (case z_all => k_is)
    (case z_any => k_is)
    (case z_min => k_is)
    (case z_max => k_is)
    (case z_divmod => k_is)
    (case z_enumerate => k_is)
    (case z_sorted => k_is)
    (case z_list => k_is)
    (case z_range => k_is)
    (case z_abs => k_is)
    (case z_str => k_is)
    (case v_MOST_ARRIVALS => k_is)
#print axioms PySem.Challenge.cw_mixserver_k09_arrivals_judged_holds

