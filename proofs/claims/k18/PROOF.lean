import PyProof.Rows.All
import Wide.All
import OpenK.AllK
import Wide.FinOn
import HandS.ForMost
import HandS.Gcd
import HandS.Wide
import HandS.WideBits
import HandS.IsInst
import HandS.SetKeys
import KE.GoesEnumKw
import HandS.More
import KE.KEqSeq
import HandS.Style
import HandS.Walk
import HandS.StrMore
import HandS.Star
import HandS.RaiseMore
import PyProof.Rows.MatchSeqLen
import KE.KUnpackStar
import PySem.Challenge.RW_mixserver_k18_written_and_read
set_option Elab.async false
set_option linter.all false
set_option maxRecDepth 100000
set_option maxHeartbeats 1000000
namespace Mx
open PySem L2

/-! ### own defs, methods, classes as bundles -/
structure OwnF (P : Program) (w : World) (K : PySem.W.Frag) (mg : Str → Option Value) (base : Heap) (x : Str) (k : Nat) (ps : List Str) (sp : Sp) : Prop where
  ex : ∃ (f : Addr) (fd : FuncData), FnOk P w K mg base CX0 k f fd ps sp ∧ mg x = some (.ref f) ∧ PySem.W.keepIn K (.ref f) = true ∧ Binds K fd ps []
structure OwnM (P : Program) (w : World) (K : PySem.W.Frag) (mg : Str → Option Value) (base : Heap) (C : Addr) (m : Str) (k : Nat) (ps : List Str) (sp : Sp) : Prop where
  ex : ∃ (f : Addr) (fd : FuncData), FnOk P w K mg base CX0 k f fd ps sp ∧ Cls K C ∧ Meth K C m f ∧ Binds K fd ps []
structure OwnC (P : Program) (w : World) (K : PySem.W.Frag) (mg : Str → Option Value) (base : Heap) (C : Addr) (x : Str) (k : Nat) (ps : List Str) (sp : Sp) : Prop where
  ex : ∃ (f : Addr) (fd : FuncData), FnOk P w K mg base CX0 k f fd ps sp ∧ mg x = some (.ref C) ∧ Mk K C f ∧ Binds K fd ps []
section
variable {X : Cx} {x m : Str} {k : Nat} {ps : List Str} {sp : Sp} {C : Addr} {p pos apos : Pos} {e o : Expr} {es : List Expr} {t : TA} {to : TE}
theorem p_call (G : OwnF X.prog X.w X.K X.mg X.base x k ps sp) (hr : Room k X.A) (ha : PA X (e :: es) t) (hg : Gl X x := by rfl) (hdb : (x == ("__debug__" : Str)) = false := by decide)
    (he : starEach (e :: es) X.env = (false, eval e X.env) :: starEach es X.env := by rfl) (hpl : (backTo pos (starEach es X.env)).any (·.1) = false := by rfl) :
    PE X (.Call (.Name x p) (e :: es) [] pos) (tCall sp [] E0 t) := by
  obtain ⟨f, fd, G, hm, hk, hb⟩ := G.ex
  exact pe_call G hr hg hm hk hb .nil pass0 ha hdb he hpl
theorem p_make (G : OwnC X.prog X.w X.K X.mg X.base C x k ps sp) (hr : Room (k + 1) X.A) (ha : PA X (e :: es) t) (hg : Gl X x := by rfl) (hdb : (x == ("__debug__" : Str)) = false := by decide)
    (he : starEach (e :: es) X.env = (false, eval e X.env) :: starEach es X.env := by rfl) (hpl : (backTo pos (starEach es X.env)).any (·.1) = false := by rfl) :
    PE X (.Call (.Name x p) (e :: es) [] pos) (tMake C sp [] E0 t) := by
  obtain ⟨f, fd, G, hm, hM, hb⟩ := G.ex
  exact pe_make hM G hr hg hm hb .nil pass0 ha hdb he hpl
theorem p_meth {pl : Sem Bool} (G : OwnM X.prog X.w X.K X.mg X.base C m k ps sp) (hr : Room k X.A) (ho : PE X o to) (ha : PA X (e :: es) t)
    (hst : starEach (e :: es) X.env = (false, eval e X.env) :: starEach es X.env := by rfl) (hpl : (backTo pos (starEach es X.env)).any (·.1) = false := by rfl)
    (ht : eval (.Call (.Attribute o m apos) (e :: es) [] pos) X.env = (do
      let ov ← eval o X.env
      standAt apos.atName
      let (f, first) ← holding [ov] (getMethod ov m pl)
      callWith pos f first (backTo pos (starEach (e :: es) X.env)) (backToKw pos (keywordEach [] X.env))) := by rfl) :
    PE X (.Call (.Attribute o m apos) (e :: es) [] pos) (tMeth C m sp [] E0 to t) := by
  obtain ⟨f, fd, G, hc, hm, hb⟩ := G.ex
  exact pe_meth ho hc hm G hr hb .nil pass0 ha hst hpl ht
theorem p_meth0 {pl : Sem Bool} (G : OwnM X.prog X.w X.K X.mg X.base C m k ps sp) (hr : Room k X.A) (ho : PE X o to)
    (ht : eval (.Call (.Attribute o m apos) [] [] pos) X.env = (do
      let ov ← eval o X.env
      standAt apos.atName
      let (f, first) ← holding [ov] (getMethod ov m pl)
      callWith pos f first (backTo pos (starEach [] X.env)) (backToKw pos (keywordEach [] X.env))) := by rfl) :
    PE X (.Call (.Attribute o m apos) [] [] pos) (tMeth C m sp [] E0 to tNil) := by
  obtain ⟨f, fd, G, hc, hm, hb⟩ := G.ex
  exact pe_meth0 ho hc hm G hr hb .nil pass0 ht
end

/-! ### o.f as a target in a tuple of targets -/
def gFld (K : PySem.W.Frag) (to : TE) (f : Str) : TG := fun y σ H Q => to σ H fun x H2 => ∃ a C dx fs, x = .ref a ∧ H2 a = some (.ins C dx fs) ∧ Cls K C ∧ NoAttr K C f ∧ fs.length < 1000 ∧ Q σ (upd H2 a (.ins C dx (putF f y fs)))
theorem pg_fld {X : Cx} {o : Expr} {to : TE} {f : Str} {pos : Pos} (ho : PE X o to)
    (ha : ∀ v, assign (.Attribute o f pos) X.env v = (do
      let ov ← holding [v] (eval o X.env)
      standAt pos.atName
      holding [v, ov] (setAttr ov f v)
      release [v, ov] []) := by intro _; rfl) : PG X (.Attribute o f pos) (gFld X.K to f) := by
  refine ⟨fun pins s σ H v u Q I r h => ?_⟩
  rw [ha]
  refine PySem.wpAny_bind (PySem.wpAny_holding (thn (ho.run pins s σ H _ I h) fun ov s1 ⟨x, H1, I1, r1, a, C, dx, fs, ex, ea, c, n, l, q⟩ => ?_))
  subst ex
  obtain rfl : ov = Value.ref a := r1
  exact PySem.wpAny_bind (PySem.wpAny_standAt (PySem.wpAny_bind (PySem.wpAny_holding (setattr_ok I1 ea c n l r fun s3 I3 => PySem.wpAny_release ⟨σ, _, I3, q⟩))))

/-! ### fields -/
theorem lk_eq {k : Str} {v : V} {r : List (Str × V)} : List.lookup k ((k, v) :: r) = some v := by
  simp [List.lookup]
theorem lk_ne {k j : Str} {v : V} {r : List (Str × V)} (h : (k == j) = false) : List.lookup k ((j, v) :: r) = List.lookup k r := by
  simp [List.lookup, h]
theorem pf_eq {k : Str} {v u : V} {r : List (Str × V)} : putF k v ((k, u) :: r) = (k, v) :: r := by
  show (if k = k then _ else _) = _
  rw [if_pos rfl]
theorem pf_ne {k j : Str} {v u : V} {r : List (Str × V)} (h : (k == j) = false) : putF k v ((j, u) :: r) = (j, u) :: putF k v r := by
  have h' : ¬ j = k := by
    intro e
    subst e
    simp at h
  show (if j = k then _ else _) = _
  rw [if_neg h']

/-! ### what stays -/
/-- all tracked things stand but those in F; tuples stand always -/
structure Stp (F : List Addr) (H H' : Hp) : Prop where
  keep : ∀ b o, H b = some o → b ∉ F → H' b = some o
  tup : ∀ b xs, H b = some (.tup xs) → H' b = some (.tup xs)
theorem Stp.refl {H : Hp} : Stp [] H H := ⟨fun _ _ h _ => h, fun _ _ h => h⟩
theorem Stp.of {H H' : Hp} (h : Same H H') : Stp [] H H' := ⟨fun b o e _ => h b o e, fun b xs e => h b _ e⟩
theorem Stp.same {H H' : Hp} (h : Stp [] H H') : Same H H' := fun b o e => h.keep b o e (by simp)
theorem Stp.trans {F G : List Addr} {H H1 H2 : Hp} (a : Stp F H H1) (b : Stp G H1 H2) : Stp (F ++ G) H H2 :=
  ⟨fun c o e n => b.keep c o (a.keep c o e fun z => n (List.mem_append_left _ z)) fun z => n (List.mem_append_right _ z), fun c xs e => b.tup c xs (a.tup c xs e)⟩
theorem Stp.sub {F G : List Addr} {H H' : Hp} (a : Stp F H H') (s : ∀ b ∈ F, b ∈ G) : Stp G H H' := ⟨fun c o e n => a.keep c o e fun z => n (s c z), a.tup⟩
/-- what H does not know may change -/
theorem Stp.subN {F G : List Addr} {H H' : Hp} (a : Stp F H H') (s : ∀ b ∈ F, b ∈ G ∨ H b = none) : Stp G H H' :=
  ⟨fun c o e n => a.keep c o e fun z => (s c z).elim n (fun q => by rw [e] at q; cases q), a.tup⟩
theorem Stp.new {H : Hp} {p : Addr} {o : HO} (h : H p = none) : Stp [] H (upd H p o) := .of fun b u e => by rw [upd_ne (ne_of_none e h)]; exact e
theorem Stp.put {H : Hp} {p : Addr} {o u : HO} (h : H p = some u) (n : ∀ xs, u ≠ .tup xs) : Stp [p] H (upd H p o) :=
  ⟨fun b x e q => by rw [upd_ne (by simpa using q)]; exact e, fun b xs e => by rw [upd_ne (ne_of e h (fun z => n xs z.symm))]; exact e⟩
theorem Stp.free {F : List Addr} {H H' : Hp} (a : Stp F H H') {p : Addr} (h : H' p = none) (n : p ∉ F) : H p = none := by
  cases q : H p with
  | none => rfl
  | some o =>
    rw [a.keep p o q n] at h
    cases h

/-! ### tuples that are read -/
def TupAt (K : PySem.W.Frag) (H : Hp) (a : Addr) (xs : List V) : Prop := H a = some (.tup xs) ∨ ∀ H' : Hp, SqT K H' a xs
theorem TupAt.sq {K : PySem.W.Frag} {H : Hp} {a : Addr} {xs : List V} (h : TupAt K H a xs) : SqT K H a xs := h.elim (fun q => .inl (.inl q)) fun q => q H
theorem TupAt.st {K : PySem.W.Frag} {F : List Addr} {H H' : Hp} {a : Addr} {xs : List V} (h : TupAt K H a xs) (s : Stp F H H') : TupAt K H' a xs := h.elim (fun q => .inl (s.tup _ _ q)) .inr

/-! ### fractions -/
/-- v is the fraction q, a tuple in lowest terms -/
def IsQ (K : PySem.W.Frag) (H : Hp) (v : V) (q : Rat) : Prop := ∃ a, v = .ref a ∧ TupAt K H a [.int q.num, .int (q.den : Int)]
theorem IsQ.st {K : PySem.W.Frag} {F : List Addr} {H H' : Hp} {v : V} {q : Rat} (h : IsQ K H v q) (s : Stp F H H') : IsQ K H' v q := by
  obtain ⟨a, e, t⟩ := h
  exact ⟨a, e, t.st s⟩
/-- so many bits -/
structure Rb (n : Nat) (q : Rat) : Prop where
  num : q.num.natAbs < 2 ^ n
  den : q.den < 2 ^ n
theorem Rb.mono {n m : Nat} {q : Rat} (h : Rb n q) (l : n ≤ m) : Rb m q := by
  have e : 2 ^ n ≤ 2 ^ m := Nat.pow_le_pow_right (by decide) l
  exact ⟨Nat.lt_of_lt_of_le h.num e, Nat.lt_of_lt_of_le h.den e⟩
theorem mk_num (t : Int) (b : Nat) (h : 0 < b) : (mkRat t b).num = t / ((Nat.gcd t.natAbs b : Nat) : Int) := by
  rw [Rat.num_mkRat, if_neg (by omega), Nat.gcd_comm]
theorem mk_den (t : Int) (b : Nat) (h : 0 < b) : (mkRat t b).den = b / Nat.gcd t.natAbs b := by
  rw [Rat.den_mkRat, if_neg (by omega), Nat.gcd_comm]
theorem Rb.of {n : Nat} {t : Int} {b : Nat} (h0 : 0 < b) (ht : t.natAbs < 2 ^ n) (hb : b < 2 ^ n) : Rb n (mkRat t b) := by
  refine ⟨?_, ?_⟩
  · rw [mk_num t b h0]
    refine Nat.lt_of_le_of_lt ?_ ht
    rw [Int.natAbs_ediv_of_dvd (Int.ofNat_dvd_left.mpr (Nat.gcd_dvd_left _ _))]
    exact Nat.div_le_self _ _
  · rw [mk_den t b h0]
    exact Nat.lt_of_le_of_lt (Nat.div_le_self _ _) hb
theorem add_mk (q r : Rat) : mkRat (q.num * r.den + r.num * q.den) (q.den * r.den) = q + r := by
  rw [Rat.add_def, Rat.normalize_eq_mkRat]
theorem mul_mk (q r : Rat) : mkRat (q.num * r.num) (q.den * r.den) = q * r := by
  rw [Rat.mul_def, Rat.normalize_eq_mkRat]
theorem sub_mk (q r : Rat) : mkRat (q.num * r.den - r.num * q.den) (q.den * r.den) = q - r := by
  rw [Rat.sub_eq_add_neg, ← add_mk, Rat.neg_num, Rat.neg_den, Int.neg_mul, ← Int.sub_eq_add_neg]
/-! ### names and texts -/
theorem ofString_inj {a b : String} : (Str.ofString a = Str.ofString b) = (a = b) := by
  refine propext ⟨fun h => ?_, fun h => by rw [h]⟩
  rw [Str.ofString_eq_toList, Str.ofString_eq_toList] at h
  have h1 : a.toList.map Char.toNat = b.toList.map Char.toNat := by simpa using h
  have h2 : a.toList = b.toList := by
    have inj : ∀ (x y : List Char), x.map Char.toNat = y.map Char.toNat → x = y := by
      intro x
      induction x with
      | nil => intro y e; cases y with
        | nil => rfl
        | cons c r => simp at e
      | cons c r ih => intro y e; cases y with
        | nil => simp at e
        | cons d t =>
          simp only [List.map_cons, List.cons.injEq] at e
          rw [ih t e.2]
          have : c = d := by
            apply Char.ext
            apply UInt32.toNat_inj.mp
            exact e.1
          rw [this]
    exact inj _ _ h1
  exact String.toList_inj.mp h2
theorem ofString_beq {a b : String} : (Str.ofString a == Str.ofString b) = decide (a = b) := by
  by_cases h : a = b
  · subst h
    simp
  · have : ¬ Str.ofString a = Str.ofString b := by
      rw [ofString_inj]
      exact h
    simp [this, h]
theorem lk_cons {k j : Str} {v : V} {r : List (Str × V)} : List.lookup k ((j, v) :: r) = if (k == j) = true then some v else List.lookup k r := by
  cases h : k == j
  · rw [lk_ne h]; simp
  · simp [List.lookup, h]
theorem pf_nil {k : Str} {v : V} : putF k v [] = [(k, v)] := rfl
theorem pf_cons {k j : Str} {v u : V} {r : List (Str × V)} : putF k v ((j, u) :: r) = if (k == j) = true then (k, v) :: r else (j, u) :: putF k v r := by
  cases h : k == j
  · rw [pf_ne h]; simp
  · have : k = j := by simpa using h
    subst this
    rw [pf_eq]
    simp
/-! ### what isinstance tells of ints -/
theorem isi_int {K : PySem.W.Frag} {H : Hp} {Q : VK} {n : Int} {T : String} {b : Bool} (h : kitB "int" T = some b) (q : Q (.bl b) H) : rIsi K [.int n, .ty T] H Q := ⟨_, _, _, _, _, rfl, .ty _, .base (.int _), kit_ty h, q⟩
theorem isi_inv {K : PySem.W.Frag} {H : Hp} {Q : VK} {n : Int} {T : String} {b : Bool} (hb : kitB "int" T = some b) : rIsi K [.int n, .ty T] H Q ↔ Q (.bl b) H := by
  refine ⟨fun h => ?_, isi_int hb⟩
  obtain ⟨x, c, t, u, b', e, hc, ht, hk, q⟩ := h
  simp only [List.cons.injEq, and_true] at e
  obtain ⟨rfl, rfl⟩ := e
  cases hc
  cases ht with
  | base h =>
    cases h
    have : PySem.W.kitOne K (.type "int") (.type T) = some b := kit_ty hb
    rw [this] at hk
    cases hk
    exact q
theorem isi_int_bool {K : PySem.W.Frag} {H : Hp} {Q : VK} {n : Int} : rIsi K [.int n, .ty "bool"] H Q ↔ Q (.bl false) H := isi_inv (by decide +kernel)
theorem isi_int_int {K : PySem.W.Frag} {H : Hp} {Q : VK} {n : Int} : rIsi K [.int n, .ty "int"] H Q ↔ Q (.bl true) H := isi_inv (by decide +kernel)
theorem isi_int_tuple {K : PySem.W.Frag} {H : Hp} {Q : VK} {n : Int} : rIsi K [.int n, .ty "tuple"] H Q ↔ Q (.bl false) H := isi_inv (by decide +kernel)
theorem isi_int_list {K : PySem.W.Frag} {H : Hp} {Q : VK} {n : Int} : rIsi K [.int n, .ty "list"] H Q ↔ Q (.bl false) H := isi_inv (by decide +kernel)
theorem isi_int_str {K : PySem.W.Frag} {H : Hp} {Q : VK} {n : Int} : rIsi K [.int n, .ty "str"] H Q ↔ Q (.bl false) H := isi_inv (by decide +kernel)
theorem scal_int {i j : Int} : scal (.int i) (.int j) = true := rfl
theorem scal_str {i j : Str} : scal (.str i) (.str j) = true := rfl
theorem scal_bl {i j : Bool} : scal (.bl i) (.bl j) = true := rfl
theorem sz_le {n : Nat} (h : n ≤ 100000) : n ≤ sizeLine := Nat.le_trans h (by decide)
theorem sz2 : (2 ≤ sizeLine) = True := eq_true (by decide)
theorem sz1 : (1 ≤ sizeLine) = True := eq_true (by decide)
theorem q0n : (0 : Rat).num = 0 := rfl
theorem q0d : ((0 : Rat).den : Int) = 1 := rfl

/-! ### a list comprehension whose element makes nothing -/
theorem wipe1 {σ : L2.St} {i : Nat} {x : Option V} : wipe ((wipe σ [i]).set i x) [i] = wipe σ [i] := by
  show ((σ.set i none).set i x).set i none = σ.set i none
  rw [List.set_set, List.set_set]
theorem stp_acc {H0 H : Hp} {D : Addr} {o : HO} (h : Stp [] H0 H) (hD : H0 D = none) (hn : ∀ xs, H D ≠ some (.tup xs)) : Stp [] H0 (upd H D o) := .of fun b u e => by
  rw [upd_ne (ne_of_none e hD)]
  exact h.same b u e
theorem lc_pure {K : PySem.W.Frag} {a : Addr} {xs : List V} {i : Nat} {te : TE} {σ : L2.St} {H0 H9 : Hp} {Q : VK} (f : V → V) (hx : SqL K H0 a xs) (hl : xs.length ≤ 100000)
    (he : ∀ x ∈ xs, ∀ (H : Hp) (Q' : VK), Stp [] H0 H → Q' (f x) H → te ((wipe σ [i]).set i (some x)) H Q')
    (k : ∀ D H', H0 D = none → Stp [] H0 H' → H' D = some (.lst (xs.map f)) → Q (.ref D) H') :
    tLc (fun _ _ R => R (Itl K a) H0) (gName i) tYes te [i] σ H9 Q := by
  intro D hD
  refine lc_list (K := K) (a := a) (xs := xs) (fun j H => Stp [] H0 H ∧ H D = some (.lst ((xs.take j).map f))) ⟨Stp.new hD, upd_same⟩ (fun j H _ h => ?_) (fun j x H hj h => ?_) (fun H h => ?_)
  · rcases hx with (q | ⟨o, q⟩) | q
    · exact .inl (.inl (h.1.same _ _ q))
    · exact .inl (.inr ⟨o, h.1.same _ _ q⟩)
    · exact .inr q
  · refine ⟨wipe1, ?_⟩
    simp only [tYes, reduceIte]
    have hm : x ∈ xs := List.mem_of_getElem? hj
    have hjl : j < xs.length := (List.getElem?_eq_some_iff.mp hj).1
    refine he x hm H _ h.1 ⟨(xs.take j).map f, h.2, ?_, ?_, ?_⟩
    · rw [List.length_map, List.length_take]
      exact Nat.lt_of_le_of_lt (Nat.min_le_right _ _) (Nat.lt_of_le_of_lt hl (by decide))
    · exact stp_acc h.1 hD (by rw [h.2]; intro ys z; cases z)
    · rw [upd_same, List.take_add_one, hj]
      simp
  · have h2 := h.2
    rw [List.take_length] at h2
    exact k D H hD h.1 h2

/-! ### o.f = e and o.f op= e, the heap behind told by what stands in it -/
def sFldA (K : PySem.W.Frag) (ta tv : TE) (f : Str) : TS := fun D σ H => tv σ H fun y H1 => ta σ H1 fun x H2 => ∃ a C dx fs, x = .ref a ∧ H2 a = some (.ins C dx fs) ∧ Cls K C ∧ NoAttr K C f ∧ fs.length < 1000 ∧
  ∀ H3, H3 a = some (.ins C dx (putF f y fs)) → Stp [a] H2 H3 → D.nx σ H3
def sFldAugA (K : PySem.W.Frag) (ta tv : TE) (rd : V → V → Hp → VK → Prop) (f : Str) : TS := fun D σ H => ta σ H fun x H1 => ∃ a C dx fs v, x = .ref a ∧ H1 a = some (.ins C dx fs) ∧ Cls K C ∧ NoAttr K C f ∧ fs.lookup f = some v ∧
  tv σ H1 fun y H2 => rd v y H2 fun z H3 => ∃ dx' fs', H3 a = some (.ins C dx' fs') ∧ fs'.length < 1000 ∧ ∀ H4, H4 a = some (.ins C dx' (putF f z fs')) → Stp [a] H3 H4 → D.nx σ H4
section
variable {X : Cx} {o value : Expr} {ta tv : TE} {f : Str} {pos pos' tpos : Pos}
theorem stp_ins {H : Hp} {a C dx : Addr} {fs gs : List (Str × V)} (h : H a = some (.ins C dx fs)) : Stp [a] H (upd H a (.ins C dx gs)) := Stp.put h fun xs z => nomatch z
theorem ps_fldA (ha : PE X o ta) (hv : PE X value tv) (hs : swapsWith value (some (.Attribute o f pos')) pos.line X.env = pure false := by rfl) : PS X (.Assign [.Attribute o f pos'] value pos) (sFldA X.K ta tv f) :=
  ⟨fun pins s σ H D I h => plainObj_wpAny_Assign_Attribute (thn (hv.run pins s σ H _ I h) fun u s1 ⟨y, H1, I1, ry, q⟩ => thn (ha.run pins s1 σ H1 _ I1 q) fun ov s2 ⟨x, H2, I2, rx, a, C, dx, fs, ex, ea, c, n, l, q2⟩ => by
    subst ex
    obtain rfl : ov = Value.ref a := rx
    exact setattr_ok I2 ea c n l ry fun s3 I3 => ⟨σ, _, I3, q2 _ upd_same (stp_ins ea)⟩) hs⟩
theorem ps_fldaugA {op : Operator} {rd : V → V → Hp → VK → Prop} (ha : PE X o ta) (hv : PE X value tv) (hop : InOp X op rd) : PS X (.AugAssign (.Attribute o f tpos) op value pos) (sFldAugA X.K ta tv rd f) :=
  ⟨fun pins s σ H D I h => wpAny_AugAssign_AttributeAny (thn (ha.run pins s σ H _ I h) fun ov s1 ⟨x, H1, I1, rx, a, C, dx, fs, v, ex, ea, c, n, l, q⟩ => by
    subst ex
    obtain rfl : ov = Value.ref a := rx
    refine getattr_ok I1 ea c n l fun u s2 I2 ru => thn (hv.run pins s2 σ H1 _ I2 q) fun u3 s3 ⟨y, H2, I3, ry, q3⟩ => thn (hop pins s3 σ H2 v y u u3 _ I3 ru ry q3) fun u4 s4 ⟨z, H3, I4, rz, dx', fs', ea', l', q4⟩ => ?_
    exact setattr_ok I4 ea' c n l' rz fun s5 I5 => ⟨σ, _, I5, q4 _ upd_same (stp_ins ea')⟩)⟩
end

theorem filt_take {α : Type} (p : α → Bool) (xs : List α) (j : Nat) {x : α} (h : xs[j]? = some x) : (xs.take (j + 1)).filter p = (xs.take j).filter p ++ if p x = true then [x] else [] := by
  rw [List.take_add_one, h, List.filter_append]
  congr 1
  show [x].filter p = _
  rw [List.filter_cons, List.filter_nil]
theorem lc_pureF {K : PySem.W.Frag} {a : Addr} {xs : List V} {i : Nat} {tt : TT} {te : TE} {σ : L2.St} {H0 H9 : Hp} {Q : VK} (p : V → Bool) (hx : SqL K H0 a xs) (hl : xs.length ≤ 100000)
    (ht : ∀ x ∈ xs, ∀ (H : Hp) (Q' : Bool → Hp → Prop), Stp [] H0 H → Q' (p x) H → tt ((wipe σ [i]).set i (some x)) H Q')
    (he : ∀ x ∈ xs, p x = true → ∀ (H : Hp) (Q' : VK), Stp [] H0 H → Q' x H → te ((wipe σ [i]).set i (some x)) H Q')
    (k : ∀ D H', H0 D = none → Stp [] H0 H' → H' D = some (.lst (xs.filter p)) → Q (.ref D) H') :
    tLc (fun _ _ R => R (Itl K a) H0) (gName i) tt te [i] σ H9 Q := by
  intro D hD
  refine lc_list (K := K) (a := a) (xs := xs) (fun j H => Stp [] H0 H ∧ H D = some (.lst ((xs.take j).filter p))) ⟨Stp.new hD, upd_same⟩ (fun j H _ h => ?_) (fun j x H hj h => ?_) (fun H h => ?_)
  · rcases hx with (q | ⟨o, q⟩) | q
    · exact .inl (.inl (h.1.same _ _ q))
    · exact .inl (.inr ⟨o, h.1.same _ _ q⟩)
    · exact .inr q
  · refine ⟨wipe1, ?_⟩
    have hm : x ∈ xs := List.mem_of_getElem? hj
    have ef := filt_take p xs j hj
    refine ht x hm H _ h.1 ?_
    cases e : p x with
    | false =>
      rw [if_neg (by simp)]
      rw [e] at ef
      refine ⟨h.1, ?_⟩
      rw [ef, h.2]
      simp
    | true =>
      rw [if_pos rfl]
      rw [e] at ef
      refine he x hm e H _ h.1 ⟨(xs.take j).filter p, h.2, ?_, ?_, ?_⟩
      · exact Nat.lt_of_le_of_lt (Nat.le_trans (List.length_filter_le _ _) (by rw [List.length_take]; exact Nat.le_trans (Nat.min_le_right _ _) hl)) (by decide)
      · exact stp_acc h.1 hD (by rw [h.2]; intro ys z; cases z)
      · rw [upd_same, ef]
        rfl
  · have h2 := h.2
    rw [List.take_length] at h2
    exact k D H hD h.1 h2

theorem lc_pureFv {K : PySem.W.Frag} {a : Addr} {xs : List V} {i j : Nat} {tt : TT} {te : TE} {σ : L2.St} {H0 : Hp} {Q : VK} (p : V → Bool) (hj : σ[j]? = some (some (.ref a))) (hx : SqL K H0 a xs) (hl : xs.length ≤ 100000)
    (ht : ∀ x ∈ xs, ∀ (H : Hp) (Q' : Bool → Hp → Prop), Stp [] H0 H → Q' (p x) H → tt ((wipe σ [i]).set i (some x)) H Q')
    (he : ∀ x ∈ xs, p x = true → ∀ (H : Hp) (Q' : VK), Stp [] H0 H → Q' x H → te ((wipe σ [i]).set i (some x)) H Q')
    (k : ∀ D H', H0 D = none → Stp [] H0 H' → H' D = some (.lst (xs.filter p)) → Q (.ref D) H') :
    tLc (iList K (tVar j)) (gName i) tt te [i] σ H0 Q := ⟨_, hj, a, rfl, ⟨_, hx⟩, lc_pureF (H9 := H0) (Q := Q) p hx hl ht he k⟩
theorem lc_pureV {K : PySem.W.Frag} {a : Addr} {xs : List V} {i j : Nat} {te : TE} {σ : L2.St} {H0 : Hp} {Q : VK} (f : V → V) (hj : σ[j]? = some (some (.ref a))) (hx : SqL K H0 a xs) (hl : xs.length ≤ 100000)
    (he : ∀ x ∈ xs, ∀ (H : Hp) (Q' : VK), Stp [] H0 H → Q' (f x) H → te ((wipe σ [i]).set i (some x)) H Q')
    (k : ∀ D H', H0 D = none → Stp [] H0 H' → H' D = some (.lst (xs.map f)) → Q (.ref D) H') :
    tLc (iList K (tVar j)) (gName i) tYes te [i] σ H0 Q := ⟨_, hj, a, rfl, ⟨_, hx⟩, lc_pure (H9 := H0) (Q := Q) f hx hl he k⟩
theorem lc_two {K : PySem.W.Frag} {a : Addr} {x y u w : V} {i : Nat} {te : TE} {σ : L2.St} {H0 H9 : Hp} {Q : VK} (hx : H0 a = some (.lst [x, y]))
    (h1 : ∀ (H : Hp) (Q' : VK), Stp [] H0 H → Q' u H → te ((wipe σ [i]).set i (some x)) H Q') (h2 : ∀ (H : Hp) (Q' : VK), Stp [] H0 H → Q' w H → te ((wipe σ [i]).set i (some y)) H Q')
    (k : ∀ D H', H0 D = none → Stp [] H0 H' → H' D = some (.lst [u, w]) → Q (.ref D) H') :
    tLc (fun _ _ R => R (Itl K a) H0) (gName i) tYes te [i] σ H9 Q := by
  intro D hD
  refine lc_list (K := K) (a := a) (xs := [x, y]) (fun j H => Stp [] H0 H ∧ H D = some (.lst (([u, w] : List V).take j))) ⟨Stp.new hD, upd_same⟩ (fun j H _ h => .inl (.inl (h.1.same _ _ hx))) (fun j z H hj h => ?_) (fun H h => ?_)
  · refine ⟨wipe1, ?_⟩
    simp only [tYes, reduceIte]
    match j, hj with
    | 0, hj =>
      cases Option.some.inj hj
      refine h1 H _ h.1 ⟨[], h.2, by decide, stp_acc h.1 hD (by rw [h.2]; intro ys z; cases z), ?_⟩
      rw [upd_same]
      rfl
    | 1, hj =>
      cases Option.some.inj hj
      refine h2 H _ h.1 ⟨[u], h.2, by show 1 < sizeLine; decide, stp_acc h.1 hD (by rw [h.2]; intro ys z; cases z), ?_⟩
      rw [upd_same]
      rfl
  · exact k D H hD h.1 h.2
theorem lc_twoM {K : PySem.W.Frag} {i : Nat} {tl te : TE} {σ : L2.St} {H : Hp} {Q : VK} (Pr : Addr → Hp → Prop) (htl : ∀ R : VK, (∀ p H', Pr p H' → R (.ref p) H') → tl σ H R)
    (h : ∀ p H', Pr p H' → ∃ x y u w : V, H' p = some (.lst [x, y]) ∧ (∀ (H2 : Hp) (Q' : VK), Stp [] H' H2 → Q' u H2 → te ((wipe σ [i]).set i (some x)) H2 Q') ∧ (∀ (H2 : Hp) (Q' : VK), Stp [] H' H2 → Q' w H2 → te ((wipe σ [i]).set i (some y)) H2 Q') ∧
      ∀ D H2, H' D = none → Stp [] H' H2 → H2 D = some (.lst [u, w]) → Q (.ref D) H2) :
    tLc (iList K tl) (gName i) tYes te [i] σ H Q := htl _ fun p H' hp => by
  obtain ⟨x, y, u, w, hl, h1, h2, k⟩ := h p H' hp
  exact ⟨p, rfl, ⟨_, .inl (.inl hl)⟩, lc_two (H9 := H) (Q := Q) hl h1 h2 k⟩
theorem lc_pureR {i j : Nat} {n : Int} {te : TE} {σ : L2.St} {H0 : Hp} {Q : VK} (f : Nat → V) (hj : σ[j]? = some (some (.int n))) (n0 : 0 ≤ n) (n1 : n ≤ 100000)
    (he : ∀ k : Nat, k < n.toNat → ∀ (H : Hp) (Q' : VK), Stp [] H0 H → Q' (f k) H → te ((wipe σ [i]).set i (some (.int (0 + (k : Int))))) H Q')
    (k : ∀ D H', H0 D = none → Stp [] H0 H' → H' D = some (.lst ((List.range n.toNat).map f)) → Q (.ref D) H') :
    tLc (iRng1 (tCons (tVar j) tNil)) (gName i) tYes te [i] σ H0 Q := by
  refine ⟨_, hj, n, rfl, by omega, by omega, fun D hD => lc_range (lo := 0) (n := n.toNat) (fun m H => Stp [] H0 H ∧ H D = some (.lst ((List.range m).map f))) ⟨Stp.new hD, upd_same⟩ (fun m H hm h => ?_) (fun H h => k D H hD h.1 h.2)⟩
  refine ⟨wipe1, ?_⟩
  simp only [tYes, reduceIte]
  refine he m hm H _ h.1 ⟨(List.range m).map f, h.2, ?_, ?_, ?_⟩
  · rw [List.length_map, List.length_range]
    exact Nat.lt_of_le_of_lt (show m ≤ 100000 by omega) (by decide)
  · exact stp_acc h.1 hD (by rw [h.2]; intro ys z; cases z)
  · rw [upd_same, List.range_succ, List.map_append]
    rfl
/-! the same over a tuple -/
theorem lc_pureT {K : PySem.W.Frag} {a : Addr} {xs : List V} {i : Nat} {te : TE} {σ : L2.St} {H0 H9 : Hp} {Q : VK} (f : V → V) (hx : H0 a = some (.tup xs)) (hl : xs.length ≤ 100000)
    (he : ∀ x ∈ xs, ∀ (H : Hp) (Q' : VK), Stp [] H0 H → Q' (f x) H → te ((wipe σ [i]).set i (some x)) H Q')
    (k : ∀ D H', H0 D = none → Stp [] H0 H' → H' D = some (.lst (xs.map f)) → Q (.ref D) H') :
    tLc (fun _ _ R => R (Itt K a) H0) (gName i) tYes te [i] σ H9 Q := by
  intro D hD
  refine lc_tup (K := K) (a := a) (xs := xs) (fun j H => Stp [] H0 H ∧ H D = some (.lst ((xs.take j).map f))) ⟨Stp.new hD, upd_same⟩ (fun j H _ h => .inl (.inl (h.1.same _ _ hx))) (fun j x H hj h => ?_) (fun H h => ?_)
  · refine ⟨wipe1, ?_⟩
    simp only [tYes, reduceIte]
    have hm : x ∈ xs := List.mem_of_getElem? hj
    refine he x hm H _ h.1 ⟨(xs.take j).map f, h.2, ?_, ?_, ?_⟩
    · rw [List.length_map, List.length_take]
      exact Nat.lt_of_le_of_lt (Nat.min_le_right _ _) (Nat.lt_of_le_of_lt hl (by decide))
    · exact stp_acc h.1 hD (by rw [h.2]; intro ys z; cases z)
    · rw [upd_same, List.take_add_one, hj]
      simp
  · have h2 := h.2
    rw [List.take_length] at h2
    exact k D H hD h.1 h2
theorem isi_tup {K : PySem.W.Frag} {H : Hp} {Q : VK} {t : Addr} {xs : List V} (h : H t = some (.tup xs)) (q : Q (.bl true) H) : rIsi K [.ref t, .ty "tuple"] H Q := ⟨_, _, _, _, _, rfl, .ty _, .base (.tup h), kit_ty (by decide +kernel), q⟩
theorem seq_st {K : PySem.W.Frag} {F : List Addr} {H H' : Hp} {a : Addr} {xs : List V} (h : SqL K H a xs) (s : Stp F H H') (n : a ∉ F) : SqL K H' a xs := by
  rcases h with (q | ⟨o, q⟩) | q
  · exact .inl (.inl (s.keep _ _ q n))
  · exact .inl (.inr ⟨o, s.keep _ _ q n⟩)
  · exact .inr q
end Mx

namespace Mx
open PySem L2 PyProof.Rows
/-! ### for i, x in enumerate(xs, start=z) -/
/-- the items of the list at a, each in a new pair with its number, from z on -/
def Itn (K : PySem.W.Frag) (a : Addr) (z : Int) : It where
  go := fun i H => ∃ (xs : List V) (x : V), SqL K H a xs ∧ xs[i]? = some x
  yld := fun i H v H' => ∃ T x, v = .ref T ∧ H T = none ∧ H' = upd H T (.tup [.int (z + (i : Nat)), x]) ∧ ∀ xs, SqL K H a xs → xs[i]? = some x
  stop := fun i H => ∃ xs : List V, SqL K H a xs ∧ xs.length = i
theorem turn_enumS {P : Program} {w : World} {K : PySem.W.Frag} {elts : List Expr} {kk : Nat} {tpos : Pos} (a e it : Addr) (z : Int) :
    Turn P w K (.Tuple elts kk tpos) (Itn K a z) [e, it] e (fun i h => (∃ old, IsEnum h e it (z + ((i : Nat) : Int)) old) ∧ h.IsListIter it a i ∧ e ≠ it ∧ a ≠ it ∧ a ≠ e) where
  mem := List.mem_cons_self
  obj := by
    rintro i h ⟨⟨old, he⟩, ⟨o, ho, hc, hd⟩, _⟩ b hb
    rcases List.mem_cons.mp hb with q | q
    · subst q
      exact ⟨_, he, fun v q => nomatch q⟩
    · rw [List.mem_singleton.mp q]
      exact ⟨o, ho, fun v q => by rw [hd] at q; cases q⟩
  keep := by
    rintro i h h' ⟨⟨old, he⟩, hi, hne⟩ k
    exact ⟨⟨old, k e List.mem_cons_self _ he⟩, hi.at fun o q => k it (List.mem_cons_of_mem _ List.mem_cons_self) o q, hne⟩
  item := by
    intro X hP hw hK hc i pins s σ H E I hf st hg
    subst hP hw hK
    obtain ⟨⟨old, he⟩, hit, hne, hai, hae⟩ := st
    obtain ⟨xs, x, hq, hx⟩ := hg
    obtain ⟨its, rv, p, hz⟩ := I.list hq
    obtain ⟨u, hu, ru⟩ := rv.get hx
    have hel : e < s.heap.objs.size := Heap.lt_size he
    have hil : it < s.heap.objs.size := by
      obtain ⟨_, q, _⟩ := hit
      exact Heap.lt_size q
    have hlt : i < its.length := (List.getElem?_eq_some_iff.mp hu).1
    have D := Draws.list (prog := X.prog) (w := X.w) (A := X.A.in1) (I.ok.hd hc) it a hai its.toArray
    refine wpAny_pyNext_enum_itemC D he ⟨hit, p.isList⟩ (by simpa using hlt) hne (by simp [hne, Ne.symm hae]) fun u' h' tk hu' ho hst hT hsz hk => ?_
    have hu2 : its[i]? = some u' := by simpa using hu'
    rw [hu] at hu2
    cases hu2
    refine ⟨_, rfl, wpAny_letOwnedTupleGo_enum (s := { s with heap := h', toks := tk + 1 }) ho fun h'' he' sb => ?_⟩
    have hT2 : h''.get? s.heap.objs.size = some { cls := .type "tuple", data := .seq #[.int (z + (i : Nat)) tk, u] } := (sb.2 _ (Nat.ne_of_gt hel)).trans hT
    have new : ObjOk X.prog X.w (upd H s.heap.objs.size (.tup [.int (z + (i : Nat)), x])) h'' s.heap.objs.size (.tup [.int (z + (i : Nat)), x]) :=
      ⟨by show 2 ≤ sizeLine; decide, [.int (z + (i : Nat)) tk, u], .cons ⟨_, rfl⟩ (.cons ru .nil), ⟨_, hT2, rfl, _, rfl⟩⟩
    have I1 : Inv X pins σ (upd H s.heap.objs.size (.tup [.int (z + (i : Nat)), x])) { s with heap := h'', toks := tk + 1 } :=
      I.turnedNew (ch := [e, it]) (fun b ob hb q => (sb.2 b (fun v => hb (by simp [v]))).trans (hk b ob (fun v => hb (by simp [v])) (fun v => hb (by simp [v])) q)) hf (Nat.le_refl _) new
    refine ⟨.ref s.heap.objs.size, _, I1, rfl, ⟨_, x, rfl, I.hok.fresh (Nat.le_refl _), rfl, fun ys hy => by rw [I.list_inj hy hq]; exact hx⟩, ⟨⟨u, ?_⟩, hst.1.at fun o q => (sb.2 it (Ne.symm hne)).trans q, hne, hai, hae⟩, fun b hb => ?_⟩
    · have e1 : z + ((i + 1 : Nat) : Int) = z + (i : Int) + 1 := by omega
      rw [e1]
      exact he'
    · have hb' : b < s.heap.objs.size := by
        rcases List.mem_cons.mp hb with q | q
        · rw [q]; exact hel
        · rw [List.mem_singleton.mp q]; exact hil
      rw [upd_ne (Nat.ne_of_lt hb')]
      exact (hf b hb).1
  done := by
    intro X hP hw hK hc i pins s σ H E I hf st hg
    subst hP hw hK
    obtain ⟨⟨old, he⟩, hit, hne, hai, hae⟩ := st
    obtain ⟨xs, hq, hx⟩ := hg
    obtain ⟨its, rv, p, hz⟩ := I.list hq
    obtain ⟨f0, f1, f2, f3, f4, f5⟩ := hf it (List.mem_cons_of_mem _ List.mem_cons_self)
    have hl := rv.length
    have D := Draws.list (prog := X.prog) (w := X.w) (A := X.A.in1) (I.ok.hd hc) it a hai its.toArray
    have hn : i = its.toArray.size := by
      show i = its.length
      omega
    exact wpAny_pyNext_enum_endD D he (by rw [← hn]; exact ⟨hit, p.isList⟩) fun h' eb => ⟨rfl, I.turned (t' := s.toks) (fun b o hb q => eb b o hb q) f0 f1 f3 f4 f5⟩
  self := by
    rintro A i s Q E ⟨⟨_, he⟩, _⟩ h
    exact wpAny_pyIter_enum he h
/-! ### the call with its start by name -/
theorem callWith_tyKw {M : Model} {A : Around} {E : Value → Shared → Prop} {s : Shared} {env : Env} {pos : Pos} {T : String} {e : Expr} {kw : Keyword} {Q : Value → Shared → Prop}
    (h : wpAny M A (spliced (backTo pos (starEach [e] env))) (fun vs s1 => wpAny M A (evalAll ((backToKw pos (keywordEach [kw] env)).map (·.2)))
      (fun kvs s2 => wpAny M A (call (.type T) vs (((backToKw pos (keywordEach [kw] env)).filterMap (·.1)).zip kvs)) Q E s2) E s1) E s)
    (he : backTo pos (starEach [e] env) = (false, eval e env) :: [])
    (hall : (backToKw pos (keywordEach [kw] env)).all (·.1.isSome) = true)
    (hkw : (backToKw pos (keywordEach [kw] env)).any (·.1.isNone) = false) :
    wpAny M A (callWith pos (.type T) [] (backTo pos (starEach [e] env)) (backToKw pos (keywordEach [kw] env))) Q E s := by
  rw [he] at h ⊢
  have h2 := evalArgs_kwB (f := .type T) (Q := fun a s1 => wpAny M A (call (.type T) ([] ++ a.pos) a.kw) Q E s1) hall h
  unfold callWith
  refine wpAny_bind (wpAny_holding (wpAny_mono h2 (fun a s1 h1 => wpAny_bind (wpAny_standAt ?_)) (fun _ _ x => x)))
  simp only [List.any_cons, List.any_nil, hkw, Bool.or_false]
  refine wpAny_bind (wpAny_pure ?_)
  exact wpAny_bind (wpAny_mono h1 (fun r s2 hr => wpAny_bind (wpAny_holding (wpAny_point (wpAny_pure hr)))) (fun _ _ x => x))
def iEnumS (K : PySem.W.Frag) (te tz : TE) : TI := fun σ H R => te σ H fun x H1 => tz σ H1 fun y H2 => ∃ a xs z, x = .ref a ∧ y = .int z ∧ SqL K H2 a xs ∧ -(2 ^ 63) ≤ z ∧ z < 2 ^ 63 ∧ R (Itn K a z) H2
theorem pi_enumS {X : Cx} {e ez : Expr} {te tz : TE} {p pos tpos kp : Pos} {elts : List Expr} {kk : Nat} (hg : Gl X "enumerate") (hm : X.mg "enumerate" = none) (he : PE X e te) (hz : PE X ez tz)
    (hs : starEach [e] X.env = [(false, eval e X.env)] := by rfl)
    (hc : eval (.Call (.Name "enumerate" p) [e] [⟨some "start", ez, kp⟩] pos) X.env = (do
      let f ← eval (.Name "enumerate" p) X.env
      callWith pos f [] (backTo pos (starEach [e] X.env)) (backToKw pos (keywordEach [⟨some "start", ez, kp⟩] X.env))) := by rfl) :
    PI X (.Tuple elts kk tpos) (.Call (.Name "enumerate" p) [e] [⟨some "start", ez, kp⟩] pos) (iEnumS X.K te tz) := by
  refine ⟨fun pins s σ H R I h => ?_⟩
  rw [hc]
  refine wpAny_bind (ld_blt I hg hm boot_enumerate ?_)
  refine callWith_tyKw ?_ (by rw [hs]; rfl) rfl rfl
  rw [hs]
  refine PySem.Calls.spliced_cons (thn (he.run pins s σ H _ I h) fun u s1 ⟨x, H1, I1, r1, q1⟩ => PySem.Calls.spliced_nil ?_)
  refine kws_cons (thn (hz.run pins s1 σ H1 _ I1 q1) fun zu s2 ⟨y, H2, I2, r2, q2⟩ => kws_nil ?_)
  obtain ⟨a, xs, z, ex, ey, hq, hz0, hz1, q⟩ := q2
  subst ex ey
  cases r1
  obtain ⟨t, rfl⟩ := r2
  obtain ⟨its, rv, p', hzz⟩ := I2.list hq
  show wpAny _ _ (call (.type "enumerate") [.ref a] [(Str.ofString "start", .int z t)]) _ _ s2
  refine enum_begins_start (begins_list a its.toArray) p'.isList hz0 hz1 fun h' hen hit hsz hk => wpAny_pyIter_enum hen ?_
  have I3 : Inv X pins σ H2 { s2 with heap := h' } := I2.kept (t' := s2.toks) hk
  have hal : a < s2.heap.objs.size := by
    obtain ⟨o, e, _⟩ := p'.isList
    exact Heap.lt_size e
  refine ⟨s2.heap.objs.size + 1, [s2.heap.objs.size + 1, s2.heap.objs.size], _, _, H2, rfl, I3, turn_enumS a (s2.heap.objs.size + 1) s2.heap.objs.size z,
    ⟨⟨.none, by simpa using hen⟩, ⟨_, hit, rfl, rfl⟩, Nat.succ_ne_self _, Nat.ne_of_lt hal, Nat.ne_of_lt (Nat.lt_succ_of_lt hal)⟩, fun b hb => ?_, q⟩
  have hle : s2.heap.objs.size ≤ b := by
    rcases List.mem_cons.mp hb with v | v
    · rw [v]; exact Nat.le_add_right _ _
    · rw [List.mem_singleton.mp v]; exact Nat.le_refl _
  exact I2.fpOk hle (I2.hok.fresh hle)
/-- such a loop, by what holds ahead of each turn -/
theorem for_enumS {K : PySem.W.Frag} {a : Addr} {z : Int} {xs : List V} {g : TG} {tb : TS} {D : Ends} {σ : L2.St} {H : Hp} (Pv : Nat → L2.St → Hp → Prop) (h0 : Pv 0 σ H) (hl : ∀ i σ H, i ≤ xs.length → Pv i σ H → SqL K H a xs)
    (hs : ∀ i x σ H T, xs[i]? = some x → Pv i σ H → H T = none → g (.ref T) σ (upd H T (.tup [.int (z + (i : Nat)), x])) fun σ2 H2 => tb { D with nx := Pv (i + 1), ct := Pv (i + 1), bk := D.nx } σ2 H2) (hd : ∀ σ H, Pv xs.length σ H → D.nx σ H) :
    ∃ W : Nat → Nat → L2.St → Hp → Prop, (∃ m, W 0 m σ H) ∧ ∀ i m σ H, W i m σ H →
      ((Itn K a z).stop i H ∧ D.nx σ H) ∨ ((Itn K a z).go i H ∧ ∃ N : L2.St → Hp → Prop, (∀ σ' H', N σ' H' → ∃ m', m' < m ∧ W (i + 1) m' σ' H') ∧ ∀ x H', (Itn K a z).yld i H x H' → g x σ H' fun σ2 H2 => tb { D with nx := N, ct := N, bk := D.nx } σ2 H2) := by
  refine ⟨fun i m σ H => m = xs.length - i ∧ i ≤ xs.length ∧ Pv i σ H, ⟨xs.length, by simp, Nat.zero_le _, h0⟩, ?_⟩
  rintro i m σ H ⟨rfl, hi, p⟩
  have q := hl i σ H hi p
  by_cases hlt : i < xs.length
  · refine .inr ⟨⟨xs, xs[i], q, by simp [hlt]⟩, Pv (i + 1), fun σ' H' p' => ⟨xs.length - (i + 1), by omega, rfl, hlt, p'⟩, ?_⟩
    rintro x H' ⟨T, y, rfl, hT, rfl, hy⟩
    exact hs i y σ H T (hy xs q) p hT
  · have e : i = xs.length := by omega
    subst e
    exact .inl ⟨⟨xs, q, rfl⟩, hd σ H p⟩
/-- the same from nothing on -/
theorem for_enum {K : PySem.W.Frag} {a : Addr} {xs : List V} {g : TG} {tb : TS} {D : Ends} {σ : L2.St} {H : Hp} (Pv : Nat → L2.St → Hp → Prop) (h0 : Pv 0 σ H) (hl : ∀ i σ H, i ≤ xs.length → Pv i σ H → SqL K H a xs)
    (hs : ∀ i x σ H T, xs[i]? = some x → Pv i σ H → H T = none → g (.ref T) σ (upd H T (.tup [.int (i : Nat), x])) fun σ2 H2 => tb { D with nx := Pv (i + 1), ct := Pv (i + 1), bk := D.nx } σ2 H2) (hd : ∀ σ H, Pv xs.length σ H → D.nx σ H) :
    ∃ W : Nat → Nat → L2.St → Hp → Prop, (∃ m, W 0 m σ H) ∧ ∀ i m σ H, W i m σ H →
      ((Ite K a).stop i H ∧ D.nx σ H) ∨ ((Ite K a).go i H ∧ ∃ N : L2.St → Hp → Prop, (∀ σ' H', N σ' H' → ∃ m', m' < m ∧ W (i + 1) m' σ' H') ∧ ∀ x H', (Ite K a).yld i H x H' → g x σ H' fun σ2 H2 => tb { D with nx := N, ct := N, bk := D.nx } σ2 H2) := by
  refine ⟨fun i m σ H => m = xs.length - i ∧ i ≤ xs.length ∧ Pv i σ H, ⟨xs.length, by simp, Nat.zero_le _, h0⟩, ?_⟩
  rintro i m σ H ⟨rfl, hi, p⟩
  have q := hl i σ H hi p
  by_cases hlt : i < xs.length
  · refine .inr ⟨⟨xs, xs[i], q, by simp [hlt]⟩, Pv (i + 1), fun σ' H' p' => ⟨xs.length - (i + 1), by omega, rfl, hlt, p'⟩, ?_⟩
    rintro x H' ⟨T, y, rfl, hT, rfl, hy⟩
    exact hs i y σ H T (hy xs q) p hT
  · have e : i = xs.length := by omega
    subst e
    exact .inl ⟨⟨xs, q, Nat.le_refl _⟩, hd σ H p⟩
end Mx

namespace L2
open PySem PySem.Spec PyProof.Rows
/-! ### x, *y = a tuple -/
section
variable {prog : Program} {w : World} {A : Around} {E : Value → Shared → Prop} {s : Shared}
theorem unpack_star1 {l : Addr} {u : Value} {us : List Value} {Q : List Value → Shared → Prop} (hl : IsTup s.heap l (u :: us).toArray) (hh : A.handled = none) (hz : us.length < sizeLine)
    (h : ∀ h' tk, Heap.ExtBut s.heap.objs.size s.heap h' → Q [u, .ref h'.objs.size] { s with heap := h'.push (seqObj "list" us.toArray 0), toks := tk }) : wpAny (model prog w) A (unpackItems (.ref l) 2 (some 1)) Q E s := by
  have hlt : l ≠ s.heap.objs.size := by obtain ⟨o, ho, _⟩ := hl; exact Nat.ne_of_lt (Heap.lt_size ho)
  have hll : l < s.heap.objs.size := by obtain ⟨o, ho, _⟩ := hl; exact Heap.lt_size ho
  unfold unpackItems
  refine wpAny_bind ?_
  unfold notIterableAtAll
  refine wpAny_bind (wpAny_specialOf hl.typeIs slot_tuple_iter.lookup ?_)
  refine wpAny_pure ?_
  simp only [Bool.false_eq_true, if_false]
  refine wpAny_bind (wpAny_holding (iter_tuple hl ?_))
  refine wpAny_bind (wpAny_holding (draw_tuple hlt 1 0 _ _ ⟨_, Heap.get?_push_size _ rfl, rfl, rfl⟩ (hl.push _) (by simp) fun h₁ hit₁ hs₁ => ?_))
  have hl₁ : IsTup h₁ l (u :: us).toArray := (hl.push _).extBut hs₁.extBut hlt
  rw [Nat.zero_add] at hit₁
  have hit₁' := hit₁
  obtain ⟨oi, hoi, _⟩ := hit₁'
  have hl₁' := hl₁
  obtain ⟨ol, hol, _⟩ := hl₁'
  rw [show (List.take 1 (List.drop 0 (u :: us).toArray.toList)) = [u] from rfl]
  rw [if_neg (by simp)]
  refine wpAny_bind (wpAny_holding (PySem.W.kun_collect (s := { s with heap := h₁ }) (T := "tuple_iterator") (.inr (.inr (.inr rfl))) (Walks.tuple (A := A.in1) hh s.heap.objs.size l hlt (u :: us).toArray) (fun j u st => st.1.typeIs) (k := 1) (by simp) ⟨hit₁, hl₁⟩ (Heap.lt_size hoi) (Heap.lt_size hol) (fun h₂ tk hk => ?_) (by simp only [List.size_toArray, List.length_cons]; omega)))
  show wpAny _ _ (if us.length < 2 - 1 - 1 then _ else _) _ _ _
  rw [if_neg (by omega)]
  show wpAny _ _ (newList (us.take (us.length - (2 - 1 - 1))) >>= fun d => pure ([u] ++ [d] ++ us.drop (us.length - (2 - 1 - 1)))) _ _ _
  have he : Heap.ExtBut s.heap.objs.size s.heap h₂ := fun b o hb e => hk b o hb (hs₁.extBut b o hb (Heap.get?_push_of_some _ e))
  have e1 : us.take (us.length - (2 - 1 - 1)) = us := List.take_of_length_le (by omega)
  have e2 : us.drop (us.length - (2 - 1 - 1)) = [] := List.drop_of_length_le (by omega)
  rw [e1, e2]
  exact wpAny_bind (wpAny_newList (wpAny_pure (h h₂ tk he)) (by omega))
end
def gStar1 (K : PySem.W.Frag) (i j : Nat) : TG := fun v σ H Q => ∃ a x xs, v = .ref a ∧ SqT K H a (x :: xs) ∧ ∀ p, H p = none → Q ((σ.set i (some x)).set j (some (.ref p))) (upd H p (.lst xs))
section
variable {X : Cx}
theorem pg_star1 {x y : Str} {p1 p2 p3 pos : Pos} {k i j : Nat} (hc : X.calm = true) (hN : X.N.Nodup) (hi : X.N[i]? = some x) (hx : Loc X.env.scope x) (hj : X.N[j]? = some y) (hy : Loc X.env.scope y)
    (hf : X.fn x = true ∨ X.env.scope.names.lookup x = some .local := by first | exact .inl rfl | exact .inr rfl) (hf2 : X.fn y = true ∨ X.env.scope.names.lookup y = some .local := by first | exact .inl rfl | exact .inr rfl)
    (he : assignEach [.Name x p1, .Starred (.Name y p2) p3] X.env = [(false, assign (.Name x p1) X.env), (true, assign (.Name y p2) X.env)] := by rfl) : PG X (.Tuple [.Name x p1, .Starred (.Name y p2) p3] k pos) (gStar1 X.K i j) := by
  refine ⟨fun pins s σ H v u Q I r h => ?_⟩
  obtain ⟨a, z, zs, rfl, hq, q⟩ := h
  obtain rfl : u = Value.ref a := r
  obtain ⟨its, rv, ht, hz⟩ := I.tuple hq
  cases rv with
  | cons rz rr =>
    have hl := rr.length
    have hn := line63
    rw [assign_Tuple]
    refine wpAny_bind (wpAny_standAt ?_)
    unfold unpack
    rw [he]
    refine wpAny_bind (wpAny_holding (unpack_star1 ht (I.ok.hd hc) (by rw [← hl]; simp only [List.length_cons] at hz; omega) fun h' tk hx' => ?_))
    have I1 : Inv X pins σ H { s with heap := h', toks := tk } := I.kept (t' := tk) fun b o e => hx' b o (Nat.ne_of_lt (Heap.lt_size e)) e
    have hp : H h'.objs.size = none := I1.hok.fresh (Nat.le_refl _)
    have I2 := I1.laid (h' := h'.push (seqObj "list" _ 0)) (t' := tk) (fun b o e => Heap.get?_push_of_some _ e) (Nat.le_refl _) (show ObjOk X.prog X.w _ _ h'.objs.size (.lst zs) from ⟨by simp only [List.length_cons] at hz; omega, _, 0, rr, Heap.get?_push_size _ rfl⟩)
    refine assignInOrder_cons (wpAny_assign_Name (store_ok I2 hN hi hx rz (fun s3 I3 => ?_) hf))
    refine assignInOrder_cons (wpAny_assign_Name (store_ok I3 hN hj hy (v := .ref h'.objs.size) rfl (fun s4 I4 => ?_) hf2))
    exact assignInOrder_nil ⟨_, _, I4, q _ hp⟩
end
end L2

namespace Mx
open PySem L2
def top (i : Nat) : Stmt := PySem.Challenge.pw_mixserver_k18_written_and_read.main.body.getD i (.Pass ⟨0, 0, 0, 0⟩)
abbrev s_BadDeed_init : Stmt := inClass (top 2) 0
abbrev s_BadText_init : Stmt := inClass (top 3) 0
abbrev s_is_whole : Stmt := top 5
abbrev s_check_deeds : Stmt := top 9
abbrev s_is_deed : Stmt := top 10
abbrev s_are_plain : Stmt := top 11
abbrev s_is_parcel : Stmt := top 12
abbrev s_row_of : Stmt := top 15
abbrev s_word_of : Stmt := top 16
abbrev s_deed_of : Stmt := top 17
abbrev s_number_of : Stmt := top 18
abbrev s_written : Stmt := top 20
abbrev s_read : Stmt := top 21
abbrev s_law_taken : Stmt := top 23
abbrev s_law_alike : Stmt := top 24
abbrev s_law_number : Stmt := top 25
abbrev s_law_steps : Stmt := top 26
abbrev s_law_text : Stmt := top 27
abbrev s_law : Stmt := top 28
end Mx

namespace Mx
open PySem L2
set_option hygiene false in
local macro_rules | `(tactic| walk_at "rd") => `(tactic| try simp only [L2.start, List.map_cons, List.map_nil, List.length_cons, List.length_nil, Nat.reduceAdd, Nat.reduceSub, Nat.reduceLT, Nat.reduceLeDiff, List.replicate_succ, List.replicate_zero, List.append_nil, List.nil_append, List.cons_append, List.set_cons_zero, List.set_cons_succ, List.getElem?_cons_zero, List.getElem?_cons_succ,
  Option.some.injEq, List.cons.injEq, and_true, true_and, and_assoc, reduceCtorEq, L2.V.int.injEq, L2.V.ref.injEq, L2.V.bl.injEq, L2.V.str.injEq, L2.V.ty.injEq, L2.HO.ins.injEq, L2.HO.lst.injEq, L2.HO.tup.injEq, L2.HO.dK.injEq, exists_eq_left', exists_eq_left, exists_eq_right, exists_eq', exists_eq, exists_and_left, exists_and_right, reduceIte, Bool.false_eq_true, Bool.not_true, Bool.not_false,
  L2.tSeq, L2.tIfS, L2.tRet, L2.tRetN, L2.tNext, L2.tAsg, L2.gName, L2.tVar, L2.tC, L2.tCons, L2.tNil, L2.tCB, L2.tOp, L2.tUn, L2.tTup, L2.tLst, L2.tB, L2.tOr, L2.tAnd, L2.tNot, L2.tAndV, L2.tOrV, L2.tNotV, L2.tIf, L2.tTest, L2.tChain, L2.rI, L2.rI0, L2.rU, L2.tDrop, L2.tNever, L2.tCall, L2.tMeth, L2.tMake, L2.rGcd, L2.tFld, L2.sFld, L2.sFldAug, Mx.sFldA, Mx.sFldAugA, L2.rAdd, L2.rSub, L2.rEq, L2.rNe, L2.tDGet, L2.tDIn, L2.tDNotIn, L2.sDPut,
  Mx.isi_int_bool, Mx.isi_int_int, Mx.isi_int_tuple, Mx.isi_int_list, Mx.isi_int_str, Mx.scal_int, Mx.scal_str, Mx.scal_bl, Mx.ofString_inj, Mx.ofString_beq, Mx.lk_cons, Mx.pf_nil, Mx.pf_cons, Mx.sz1, Mx.sz2, List.lookup_nil, String.reduceEq, decide_true, decide_false, decide_eq_true_eq, Int.natAbs_natCast, L2.upd_same, L2.upd_upd, L2.cxOf])
set_option hygiene false in
local macro_rules | `(tactic| walk_at "rds") => `(tactic| try simp only [L2.start, List.map_cons, List.map_nil, List.length_cons, List.length_nil, Nat.reduceAdd, Nat.reduceSub, Nat.reduceLT, Nat.reduceLeDiff, List.replicate_succ, List.replicate_zero, List.append_nil, List.nil_append, List.cons_append, List.set_cons_zero, List.set_cons_succ, List.getElem?_cons_zero, List.getElem?_cons_succ,
  Option.some.injEq, List.cons.injEq, and_true, true_and, and_assoc, reduceCtorEq, L2.V.int.injEq, L2.V.ref.injEq, L2.V.bl.injEq, L2.V.str.injEq, L2.V.ty.injEq, L2.HO.ins.injEq, L2.HO.lst.injEq, L2.HO.tup.injEq, L2.HO.dK.injEq, exists_eq_left', exists_eq_left, exists_eq_right, exists_eq', exists_eq, exists_and_left, exists_and_right, reduceIte, Bool.false_eq_true, Bool.not_true, Bool.not_false,
  L2.tSeq, L2.tIfS, L2.tRet, L2.tRetN, L2.tNext, L2.tAsg, L2.gName, L2.tVar, L2.tC, L2.tCons, L2.tNil, L2.tCB, L2.tOp, L2.tUn, L2.tTup, L2.tLst, L2.tB, L2.tOr, L2.tAnd, L2.tNot, L2.tAndV, L2.tOrV, L2.tNotV, L2.tIf, L2.tTest, L2.tChain, L2.rI, L2.rI0, L2.rU, L2.tDrop, L2.tNever, L2.tCall, L2.tMeth, L2.tMake, L2.rGcd, L2.tFld, L2.sFld, L2.sFldAug, Mx.sFldA, Mx.sFldAugA, L2.rAdd, L2.rSub, L2.rEq, L2.rNe, L2.tDGet, L2.tDIn, L2.tDNotIn, L2.sDPut,
  Mx.isi_int_bool, Mx.isi_int_int, Mx.isi_int_tuple, Mx.isi_int_list, Mx.isi_int_str, Mx.scal_int, Mx.scal_str, Mx.scal_bl, Mx.ofString_inj, Mx.ofString_beq, Mx.lk_cons, Mx.pf_nil, Mx.pf_cons, Mx.sz1, Mx.sz2, List.lookup_nil, String.reduceEq, decide_true, decide_false, decide_eq_true_eq, Int.natAbs_natCast, L2.upd_same, L2.upd_upd, L2.cxOf, *])

/-- the built-in names that the program leaves as they are -/
structure Blt (mg : Str → Option Value) : Prop where
  isi : mg "isinstance" = none
  bool : mg "bool" = none
  int : mg "int" = none
  tuple : mg "tuple" = none
  len : mg "len" = none
  all : mg "all" = none
  any : mg "any" = none
  max : mg "max" = none
  divmod : mg "divmod" = none
  enumerate : mg "enumerate" = none
  sorted : mg "sorted" = none
  list : mg "list" = none
  range : mg "range" = none
  abs : mg "abs" = none
  str : mg "str" = none
section
variable {P : Program} {w : World} {K : PySem.W.Frag} {mg : Str → Option Value} {base : Heap}
/-! ### a name that is a built-in class, as a value -/
section
variable {X : Cx} {e1 e2 : Expr} {t1 t2 : TE} {p pos : Pos}
theorem b_isi {T : String} {x : Str} {q : Pos} (B : Blt X.mg) (h1 : PE X e1 t1) (h : X.mg x = none) (hb : bootBuiltins x = some (.type T)) (hx : x ≠ "__name__" := by decide) (hd : (x == ("__debug__" : Str)) = false := by decide) (hg : Gl X "isinstance" := by rfl) (hg2 : Gl X x := by rfl)
    (he : starEach [e1, .Name x q] X.env = (false, eval e1 X.env) :: starEach [.Name x q] X.env := by rfl)
    (he2 : starEach [.Name x q] X.env = (false, eval (.Name x q) X.env) :: starEach [] X.env := by rfl)
    (hpl : (backTo pos (starEach [.Name x q] X.env)).any (·.1) = false := by rfl) :
    PE X (.Call (.Name "isinstance" p) [e1, .Name x q] [] pos) (tCB (rIsi X.K) (tCons t1 (tCons (tC (.ty T)) tNil))) :=
  pe_callB call_isi hg B.isi PyProof.Rows.boot_isinstance (pa_cons h1 (pa_cons (pe_bltn (v := .ty T) hg2 h hb rfl hx hd) pa_nil he2) he) (he := he) (hpl := hpl)
end

/-! ### is_whole -/
def sp_is_whole : Sp := fun vs H Q _ => ∃ (n lo hi : Int), vs = [.int n, .int lo, .int hi] ∧ Q (.bl (decide (lo ≤ n ∧ n ≤ hi))) H
theorem sc_is_whole : FnScope ["number", "low", "high"] ["number", "low", "high"] (defScope s_is_whole) := ⟨rfl, rfl, rfl, by decide +kernel, rfl, by decide +kernel, by decide +kernel⟩
theorem ok_is_whole {f : Addr} {fd : FuncData} (F : Fun K "is_whole" "is_whole" s_is_whole f fd) (B : Blt mg) : FnOk P w K mg base CX0 1 f fd ["number", "low", "high"] sp_is_whole := by
  refine F.ok sc_is_whole (fun vs H Q E h => ?_) (fun cdv A outer s H vs Q E hr h => ?_)
  · obtain ⟨n, lo, hi, rfl, _⟩ := h
    rfl
  · obtain ⟨n, lo, hi, rfl, k⟩ := h
    refine ⟨_, pss_cons (ps_if (PW.pt (pw_or (pt_val (b_isi B (pv 0) B.bool PyProof.Rows.boot_bool)) (pw_or1 (pt_not (pt_val (b_isi B (pv 0) B.int PyProof.Rows.boot_int))))))
        (pss_one (ps_ret pe_bl)) pss_nil)
      (pss_one (ps_ret (pe_chain op_le op_le (pv 1) (pv 0) (pv 2)))), ?_⟩
    walk_at "rd"
    by_cases h1 : lo ≤ n
    · rw [if_pos h1]
      rw [show (decide (n ≤ hi)) = decide (lo ≤ n ∧ n ≤ hi) from by simp [h1]]
      exact k
    · rw [if_neg (by simpa using h1)]
      rw [show (false) = decide (lo ≤ n ∧ n ≤ hi) from by simp [h1]]
      exact k

/-! ### ratio, plus, times, minus -/
def frac (q : Rat) : List V := [.int q.num, .int (q.den : Int)]
def sp_ratio : Sp := fun vs H Q _ => ∃ (t b : Int), vs = [.int t, .int b] ∧ 0 < b ∧ b.natAbs < 2 ^ 9000 ∧
  ∀ p H', H p = none → Stp [] H H' → H' p = some (.tup (frac (mkRat t b.toNat))) → Q (.ref p) H'
/-- of two fractions a third: a new tuple -/
def sp_two (g : Rat → Rat → Rat) (K : PySem.W.Frag) : Sp := fun vs H Q _ => ∃ (a b : Addr) (q r : Rat) (n m : Nat), vs = [.ref a, .ref b] ∧ TupAt K H a (frac q) ∧ TupAt K H b (frac r) ∧ Rb n q ∧ Rb m r ∧ n + m < 9000 ∧ 0 < n ∧ 0 < m ∧
  ∀ p H', H p = none → Stp [] H H' → H' p = some (.tup (frac (g q r))) → Q (.ref p) H'
theorem at0 {x : V} {r : List V} : atI (x :: r) 0 = some x := by
  show ((if (0 : Int) ≤ 0 then (if (0 : Int) < ((r.length + 1 : Nat) : Int) then some (0 : Int).toNat else none) else _ : Option Nat)).bind _ = _
  rw [if_pos (by decide), if_pos (by omega)]
  rfl
theorem at1 {x y : V} {r : List V} : atI (x :: y :: r) 1 = some y := by
  show ((if (0 : Int) ≤ 1 then (if (1 : Int) < ((r.length + 1 + 1 : Nat) : Int) then some (1 : Int).toNat else none) else _ : Option Nat)).bind _ = _
  rw [if_pos (by decide), if_pos (by omega)]
  rfl
theorem ixT_0 {H : Hp} {a : Addr} {x : V} {r : List V} {Q : VK} (h : TupAt K H a (x :: r)) (q : Q x H) : rIxT K (.ref a) (.int 0) H Q := ⟨a, _, 0, x, rfl, rfl, h.sq, at0, q⟩
theorem ixT_1 {H : Hp} {a : Addr} {x y : V} {r : List V} {Q : VK} (h : TupAt K H a (x :: y :: r)) (q : Q y H) : rIxT K (.ref a) (.int 1) H Q := ⟨a, _, 1, y, rfl, rfl, h.sq, at1, q⟩
end
end Mx

namespace Mx
open PySem L2
/-! ### the draws -/
/-- the row of draws at r: the script, where one is, what is mixed -/
def RowAt (K : PySem.W.Frag) (H : Hp) (r sc : Addr) (ns : List Int) : Prop := ∃ pos mix : Int, 0 ≤ pos ∧ 0 ≤ mix ∧ mix < 2147483647 ∧ H r = some (.lst [.ref sc, .int pos, .int mix]) ∧ SqL K H sc (ns.map V.int) ∧ (sc ≠ r ∨ ∀ H' : Hp, SqL K H' sc (ns.map V.int))
theorem seq_or {K : PySem.W.Frag} {H H' : Hp} {a r : Addr} {xs : List V} (h : SqL K H a xs) (s : Stp [r] H H') (n : a ≠ r ∨ ∀ H' : Hp, SqL K H' a xs) : SqL K H' a xs := n.elim (fun q => seq_st h s (by simpa using q)) fun q => q H'
theorem RowAt.st {K : PySem.W.Frag} {F : List Addr} {H H' : Hp} {r sc : Addr} {ns : List Int} (h : RowAt K H r sc ns) (s : Stp F H H') (h1 : r ∉ F) (h2 : sc ∉ F) : RowAt K H' r sc ns := by
  obtain ⟨pos, mix, p0, m0, m1, hr, hs, hn⟩ := h
  exact ⟨pos, mix, p0, m0, m1, s.keep _ _ hr h1, seq_st hs s h2, hn⟩
theorem RowAt.st0 {K : PySem.W.Frag} {H H' : Hp} {r sc : Addr} {ns : List Int} (h : RowAt K H r sc ns) (s : Stp [] H H') : RowAt K H' r sc ns := h.st s (by simp) (by simp)
def sp_taken (K : PySem.W.Frag) : Sp := fun vs H Q _ => ∃ (r sc : Addr) (ns : List Int) (many : Int), vs = [.ref r, .int many] ∧ RowAt K H r sc ns ∧ 1 ≤ many ∧ ∀ v H', 0 ≤ v → v < many → RowAt K H' r sc ns → Stp [r] H H' → Q (.int v) H'
theorem at3_0 {x y z : V} : atI [x, y, z] 0 = some x := rfl
theorem at3_1 {x y z : V} : atI [x, y, z] 1 = some y := rfl
theorem at3_2 {x y z : V} : atI [x, y, z] 2 = some z := rfl
theorem ixL {K : PySem.W.Frag} {H : Hp} {p : Addr} {xs : List V} {i : Int} {x : V} {Q : VK} (h : SqL K H p xs) (ha : atI xs i = some x) (q : Q x H) : rIxL K (.ref p) (.int i) H Q := ⟨p, xs, i, x, rfl, rfl, h, ha, q⟩
theorem setL {H : Hp} {p : Addr} {xs : List V} {i : Int} {j : Nat} {v : V} {Q : Hp → Prop} (h : H p = some (.lst xs)) (hi : ixN xs.length i = some j) (q : ∀ H', H' p = some (.lst (xs.set j v)) → Stp [p] H H' → Q H') : rSetL (.ref p) (.int i) v H Q :=
  ⟨p, xs, i, j, rfl, rfl, h, hi, q _ upd_same (Stp.put h fun xs z => nomatch z)⟩
theorem at_nat {ns : List Int} {i : Int} (h0 : 0 ≤ i) (h1 : i < ns.length) : ∃ n, n ∈ ns ∧ atI (ns.map V.int) i = some (.int n) := by
  have hl : i.toNat < ns.length := by omega
  refine ⟨ns[i.toNat], List.getElem_mem hl, ?_⟩
  unfold atI ixN
  rw [if_pos h0, List.length_map, if_pos h1]
  show (ns.map V.int)[i.toNat]? = _
  rw [List.getElem?_map, List.getElem?_eq_getElem hl]
  rfl
set_option hygiene false in
local macro_rules | `(tactic| walk_at "rd") => `(tactic| try simp only [L2.start, List.map_cons, List.map_nil, List.length_cons, List.length_nil, Nat.reduceAdd, Nat.reduceSub, Nat.reduceLT, Nat.reduceLeDiff, List.replicate_succ, List.replicate_zero, List.append_nil, List.nil_append, List.cons_append, List.set_cons_zero, List.set_cons_succ, List.getElem?_cons_zero, List.getElem?_cons_succ,
  Option.some.injEq, List.cons.injEq, and_true, true_and, and_assoc, reduceCtorEq, L2.V.int.injEq, L2.V.ref.injEq, L2.V.bl.injEq, L2.V.str.injEq, L2.V.ty.injEq, L2.HO.ins.injEq, L2.HO.lst.injEq, L2.HO.tup.injEq, L2.HO.dK.injEq, exists_eq_left', exists_eq_left, exists_eq_right, exists_eq', exists_eq, exists_and_left, exists_and_right, reduceIte, Bool.false_eq_true, Bool.not_true, Bool.not_false,
  L2.tSeq, L2.tIfS, L2.tRet, L2.tRetN, L2.tNext, L2.tAsg, L2.gName, L2.tVar, L2.tC, L2.tCons, L2.tNil, L2.tCB, L2.tOp, L2.tUn, L2.tTup, L2.tLst, L2.tB, L2.tOr, L2.tAnd, L2.tNot, L2.tAndV, L2.tOrV, L2.tNotV, L2.tIf, L2.tTest, L2.tChain, L2.rI, L2.rI0, L2.rU, L2.tDrop, L2.tNever, L2.tCall, L2.tMeth, L2.tMake, L2.rGcd, L2.tFld, L2.sFld, L2.sFldAug, Mx.sFldA, Mx.sFldAugA, L2.rAdd, L2.rSub, L2.rEq, L2.rNe, L2.tDGet, L2.tDIn, L2.tDNotIn, L2.sDPut,
  Mx.isi_int_bool, Mx.isi_int_int, Mx.isi_int_tuple, Mx.isi_int_list, Mx.isi_int_str, Mx.scal_int, Mx.scal_str, Mx.scal_bl, Mx.ofString_inj, Mx.ofString_beq, Mx.lk_cons, Mx.pf_nil, Mx.pf_cons, Mx.sz1, Mx.sz2, List.lookup_nil, String.reduceEq, decide_true, decide_false, decide_eq_true_eq, Int.natAbs_natCast, L2.upd_same, L2.upd_upd, L2.cxOf, L2.gSub])
set_option hygiene false in
local macro_rules | `(tactic| walk_at "rds") => `(tactic| try simp only [L2.start, List.map_cons, List.map_nil, List.length_cons, List.length_nil, Nat.reduceAdd, Nat.reduceSub, Nat.reduceLT, Nat.reduceLeDiff, List.replicate_succ, List.replicate_zero, List.append_nil, List.nil_append, List.cons_append, List.set_cons_zero, List.set_cons_succ, List.getElem?_cons_zero, List.getElem?_cons_succ,
  Option.some.injEq, List.cons.injEq, and_true, true_and, and_assoc, reduceCtorEq, L2.V.int.injEq, L2.V.ref.injEq, L2.V.bl.injEq, L2.V.str.injEq, L2.V.ty.injEq, L2.HO.ins.injEq, L2.HO.lst.injEq, L2.HO.tup.injEq, L2.HO.dK.injEq, exists_eq_left', exists_eq_left, exists_eq_right, exists_eq', exists_eq, exists_and_left, exists_and_right, reduceIte, Bool.false_eq_true, Bool.not_true, Bool.not_false,
  L2.tSeq, L2.tIfS, L2.tRet, L2.tRetN, L2.tNext, L2.tAsg, L2.gName, L2.tVar, L2.tC, L2.tCons, L2.tNil, L2.tCB, L2.tOp, L2.tUn, L2.tTup, L2.tLst, L2.tB, L2.tOr, L2.tAnd, L2.tNot, L2.tAndV, L2.tOrV, L2.tNotV, L2.tIf, L2.tTest, L2.tChain, L2.rI, L2.rI0, L2.rU, L2.tDrop, L2.tNever, L2.tCall, L2.tMeth, L2.tMake, L2.rGcd, L2.tFld, L2.sFld, L2.sFldAug, Mx.sFldA, Mx.sFldAugA, L2.rAdd, L2.rSub, L2.rEq, L2.rNe, L2.tDGet, L2.tDIn, L2.tDNotIn, L2.sDPut,
  Mx.isi_int_bool, Mx.isi_int_int, Mx.isi_int_tuple, Mx.isi_int_list, Mx.isi_int_str, Mx.scal_int, Mx.scal_str, Mx.scal_bl, Mx.ofString_inj, Mx.ofString_beq, Mx.lk_cons, Mx.pf_nil, Mx.pf_cons, Mx.sz1, Mx.sz2, List.lookup_nil, String.reduceEq, decide_true, decide_false, decide_eq_true_eq, Int.natAbs_natCast, L2.upd_same, L2.upd_upd, L2.cxOf, L2.gSub, *])

section
variable {P : Program} {w : World} {K : PySem.W.Frag} {mg : Str → Option Value} {base : Heap}
theorem sc_law_taken : FnScope ["_law_row", "_law_many", "_law_cell"] ["_law_row", "_law_many"] (defScope s_law_taken) := ⟨rfl, rfl, rfl, by decide +kernel, rfl, by decide +kernel, by decide +kernel⟩
theorem ok_law_taken {f : Addr} {fd : FuncData} (F : Fun K "_law_taken" "_law_taken" s_law_taken f fd) (B : Blt mg) : FnOk P w K mg base CX0 1 f fd ["_law_row", "_law_many"] (sp_taken K) := by
  refine F.ok sc_law_taken (fun vs H Q E h => ?_) (fun cdv A outer s H vs Q E hr h => ?_)
  · obtain ⟨r, sc, ns, many, rfl, _⟩ := h
    rfl
  · obtain ⟨r, sc, ns, many, rfl, ⟨pos, mix, p0, m0, m1, hR, hS, hn⟩, h1, k⟩ := h
    refine ⟨_, pss_cons (ps_asg (pe_op op_add (pe_ix ix_list (pv 0) pe_int (fun _ _ => rfl)) pe_int) (pg_sub (pv 0) pe_int set_list))
      (pss_cons (ps_if (pt_cmpR op_gt (pe_ix ix_list (pv 0) pe_int (fun _ _ => rfl)) (pe_callB call_len_seq (by rfl) B.len PySem.boot_len (pa_cons (pe_ix ix_list (pv 0) pe_int (fun _ _ => rfl)) pa_nil)) (nomark _))
        (pss_cons (ps_asg (pe_op op_mod (pe_op op_add (pe_op op_mul (pe_ix ix_list (pv 0) pe_int (fun _ _ => rfl)) pe_int) pe_int) pe_int) (pg_sub (pv 0) pe_int set_list))
          (pss_one (ps_ret (pe_op op_mod (pe_op op_fdiv (pe_ix ix_list (pv 0) pe_int (fun _ _ => rfl)) pe_int) (pv 1))))) pss_nil)
      (pss_cons (ps_set (i := 2) sc_law_taken.nd rfl (.inl rfl) (pe_ix ix_list (pe_ix ix_list (pv 0) pe_int (fun _ _ => rfl)) (pe_op op_sub (pe_ix ix_list (pv 0) pe_int (fun _ _ => rfl)) pe_int) (fun _ _ => rfl)))
      (pss_cons (ps_asg (pe_op op_mod (pe_op op_add (pe_op op_add (pe_op op_mul (pe_ix ix_list (pv 0) pe_int (fun _ _ => rfl)) pe_int) (pv 2)) pe_int) pe_int) (pg_sub (pv 0) pe_int set_list))
      (pss_one (ps_ret (pe_op op_mod (pv 2) (pv 1)))))))
      , ?_⟩
    walk_at "rd"
    refine ixL (.inl (.inl hR)) at3_1 ?_
    walk_at "rd"
    refine setL hR (j := 1) rfl fun H1 g1 s1 => ?_
    have hS1 := seq_or hS s1 hn
    refine ixL (.inl (.inl g1)) at3_1 (ixL (.inl (.inl g1)) at3_0 ?_)
    walk_at "rd"
    refine ⟨_, .inl hS1, ?_⟩
    by_cases hp : pos + 1 > (((ns.map V.int).length : Nat) : Int)
    · walk_at "rd"
      rw [if_pos hp]
      refine ixL (.inl (.inl g1)) at3_2 ?_
      walk_at "rd"
      refine ⟨.inl ⟨by omega, by omega⟩, by decide, ?_⟩
      refine setL g1 (j := 2) rfl fun H2 g2 s2 => ?_
      refine ixL (.inl (.inl g2)) at3_2 ?_
      walk_at "rd"
      have e0 := Int.emod_nonneg (mix * 48271 + 11) (show (2147483647 : Int) ≠ 0 by decide)
      have e1 := Int.emod_lt_of_pos (mix * 48271 + 11) (show (0 : Int) < 2147483647 by decide)
      refine ⟨⟨by decide, by decide⟩, by omega, ?_⟩
      exact k _ H2 (Int.emod_nonneg _ (by omega)) (Int.emod_lt_of_pos _ (by omega)) ⟨pos + 1, _, by omega, e0, e1, g2, seq_or hS1 s2 hn, hn⟩ ((s1.trans s2).sub (by simp))
    · walk_at "rd"
      rw [if_neg hp]
      rw [List.length_map] at hp
      obtain ⟨n, _, hat⟩ := at_nat (ns := ns) (i := pos) p0 (by omega)
      refine ixL (.inl (.inl g1)) at3_0 (ixL (.inl (.inl g1)) at3_1 ?_)
      walk_at "rd"
      refine ixL hS1 (i := pos + 1 - 1) (by rw [show pos + 1 - 1 = pos by omega]; exact hat) ?_
      refine ixL (.inl (.inl g1)) at3_2 ?_
      walk_at "rd"
      refine ⟨.inl ⟨by omega, by omega⟩, by decide, ?_⟩
      refine setL g1 (j := 2) rfl fun H2 g2 s2 => ?_
      walk_at "rd"
      have e0 := Int.emod_nonneg (mix * 48271 + n + 11) (show (2147483647 : Int) ≠ 0 by decide)
      have e1 := Int.emod_lt_of_pos (mix * 48271 + n + 11) (show (0 : Int) < 2147483647 by decide)
      refine ⟨by omega, ?_⟩
      exact k _ H2 (Int.emod_nonneg _ (by omega)) (Int.emod_lt_of_pos _ (by omega)) ⟨pos + 1, _, by omega, e0, e1, g2, seq_or hS1 s2 hn, hn⟩ ((s1.trans s2).sub (by simp))
end
end Mx

namespace Mx
open PySem L2
set_option hygiene false in
local macro_rules | `(tactic| walk_at "rd") => `(tactic| try simp only [L2.start, List.map_cons, List.map_nil, List.length_cons, List.length_nil, Nat.reduceAdd, Nat.reduceSub, Nat.reduceLT, Nat.reduceLeDiff, List.replicate_succ, List.replicate_zero, List.append_nil, List.nil_append, List.cons_append, List.set_cons_zero, List.set_cons_succ, List.getElem?_cons_zero, List.getElem?_cons_succ,
  Option.some.injEq, List.cons.injEq, and_true, true_and, and_assoc, reduceCtorEq, L2.V.int.injEq, L2.V.ref.injEq, L2.V.bl.injEq, L2.V.str.injEq, L2.V.ty.injEq, L2.HO.ins.injEq, L2.HO.lst.injEq, L2.HO.tup.injEq, L2.HO.dK.injEq, exists_eq_left', exists_eq_left, exists_eq_right, exists_eq', exists_eq, exists_and_left, exists_and_right, reduceIte, Bool.false_eq_true, Bool.not_true, Bool.not_false,
  L2.tSeq, L2.tIfS, L2.tRet, L2.tRetN, L2.tNext, L2.tAsg, L2.gName, L2.tVar, L2.tC, L2.tCons, L2.tNil, L2.tCB, L2.tOp, L2.tUn, L2.tTup, L2.tLst, L2.tB, L2.tOr, L2.tAnd, L2.tNot, L2.tAndV, L2.tOrV, L2.tNotV, L2.tIf, L2.tTest, L2.tChain, L2.rI, L2.rI0, L2.rU, L2.tDrop, L2.tNever, L2.tCall, L2.tMeth, L2.tMake, L2.rGcd, L2.tFld, L2.sFld, L2.sFldAug, Mx.sFldA, Mx.sFldAugA, L2.rAdd, L2.rSub, L2.rEq, L2.rNe, L2.tDGet, L2.tDIn, L2.tDNotIn, L2.sDPut,
  Mx.isi_int_bool, Mx.isi_int_int, Mx.isi_int_tuple, Mx.isi_int_list, Mx.isi_int_str, Mx.scal_int, Mx.scal_str, Mx.scal_bl, Mx.ofString_inj, Mx.ofString_beq, Mx.lk_cons, Mx.pf_nil, Mx.pf_cons, Mx.sz1, Mx.sz2, List.lookup_nil, String.reduceEq, decide_true, decide_false, decide_eq_true_eq, Int.natAbs_natCast, L2.upd_same, L2.upd_upd, L2.cxOf, L2.gSub])
set_option hygiene false in
local macro_rules | `(tactic| walk_at "rds") => `(tactic| try simp only [L2.start, List.map_cons, List.map_nil, List.length_cons, List.length_nil, Nat.reduceAdd, Nat.reduceSub, Nat.reduceLT, Nat.reduceLeDiff, List.replicate_succ, List.replicate_zero, List.append_nil, List.nil_append, List.cons_append, List.set_cons_zero, List.set_cons_succ, List.getElem?_cons_zero, List.getElem?_cons_succ,
  Option.some.injEq, List.cons.injEq, and_true, true_and, and_assoc, reduceCtorEq, L2.V.int.injEq, L2.V.ref.injEq, L2.V.bl.injEq, L2.V.str.injEq, L2.V.ty.injEq, L2.HO.ins.injEq, L2.HO.lst.injEq, L2.HO.tup.injEq, L2.HO.dK.injEq, exists_eq_left', exists_eq_left, exists_eq_right, exists_eq', exists_eq, exists_and_left, exists_and_right, reduceIte, Bool.false_eq_true, Bool.not_true, Bool.not_false,
  L2.tSeq, L2.tIfS, L2.tRet, L2.tRetN, L2.tNext, L2.tAsg, L2.gName, L2.tVar, L2.tC, L2.tCons, L2.tNil, L2.tCB, L2.tOp, L2.tUn, L2.tTup, L2.tLst, L2.tB, L2.tOr, L2.tAnd, L2.tNot, L2.tAndV, L2.tOrV, L2.tNotV, L2.tIf, L2.tTest, L2.tChain, L2.rI, L2.rI0, L2.rU, L2.tDrop, L2.tNever, L2.tCall, L2.tMeth, L2.tMake, L2.rGcd, L2.tFld, L2.sFld, L2.sFldAug, Mx.sFldA, Mx.sFldAugA, L2.rAdd, L2.rSub, L2.rEq, L2.rNe, L2.tDGet, L2.tDIn, L2.tDNotIn, L2.sDPut,
  Mx.isi_int_bool, Mx.isi_int_int, Mx.isi_int_tuple, Mx.isi_int_list, Mx.isi_int_str, Mx.scal_int, Mx.scal_str, Mx.scal_bl, Mx.ofString_inj, Mx.ofString_beq, Mx.lk_cons, Mx.pf_nil, Mx.pf_cons, Mx.sz1, Mx.sz2, List.lookup_nil, String.reduceEq, decide_true, decide_false, decide_eq_true_eq, Int.natAbs_natCast, L2.upd_same, L2.upd_upd, L2.cxOf, L2.gSub, *])

section
variable {P : Program} {w : World} {K : PySem.W.Frag} {mg : Str → Option Value} {base : Heap}
/-! ### a fraction in lowest terms, by taking rests -/
/-! ### numbers, paces, loudness -/
def sp_drawn (K : PySem.W.Frag) (lo hi : Int) : Sp := fun vs H Q _ => ∃ (r sc : Addr) (ns : List Int), vs = [.ref r] ∧ RowAt K H r sc ns ∧ ∀ v H', lo ≤ v → v ≤ hi → RowAt K H' r sc ns → Stp [r] H H' → Q (.int v) H'
theorem row_new {H : Hp} {r sc p : Addr} {ns : List Int} {o : HO} (h : RowAt K H r sc ns) (hp : H p = none) : RowAt K (upd H p o) r sc ns := h.st0 (Stp.new hp)
theorem sc_law_number : FnScope ["_law_row"] ["_law_row"] (defScope s_law_number) := ⟨rfl, rfl, rfl, by decide +kernel, rfl, by decide +kernel, by decide +kernel⟩
theorem ok_law_number {f : Addr} {fd : FuncData} (F : Fun K "_law_number" "_law_number" s_law_number f fd) (G : OwnF P w K mg base "_law_taken" 1 ["_law_row", "_law_many"] (sp_taken K)) : FnOk P w K mg base CX0 2 f fd ["_law_row"] (sp_drawn K (-999) 999) := by
  refine F.ok sc_law_number (fun vs H Q E h => ?_) (fun cdv A outer s H vs Q E hr h => ?_)
  · obtain ⟨r, sc, ns, rfl, _⟩ := h
    rfl
  · obtain ⟨r, sc, ns, rfl, hR, k⟩ := h
    refine ⟨_, pss_one (ps_ret (pe_ix ix_list (pe_lst (pa_cons (pe_op op_sub (p_call G hr (pa_cons (pv 0) (pa_cons pe_int pa_nil))) pe_int) (pa_cons (pe_op op_sub (p_call G hr (pa_cons (pv 0) (pa_cons pe_int pa_nil))) pe_int) pa_nil))) (p_call G hr (pa_cons (pv 0) (pa_cons pe_int pa_nil))) (fun _ _ => rfl))), ?_⟩
    walk_at "rd"
    refine ⟨r, sc, ns, 19, rfl, hR, by decide, fun a H1 a0 a1 hR1 s1 => ?_⟩
    walk_at "rd"
    refine ⟨r, sc, ns, 1999, rfl, hR1, by decide, fun b H2 b0 b1 hR2 s2 => ?_⟩
    walk_at "rd"
    intro p hp
    have s3 := Stp.new (o := .lst [.int (a - 9), .int (b - 999)]) hp
    refine ⟨r, sc, ns, 2, rfl, row_new hR2 hp, by decide, fun c H4 c0 c1 hR4 s4 => ?_⟩
    have hpr : p ≠ r := by
      obtain ⟨_, _, _, _, _, hr2, _⟩ := hR2
      exact (ne_of_none hr2 hp).symm
    have hl := s4.keep _ _ (upd_same (H := H2) (a := p) (o := .lst [.int (a - 9), .int (b - 999)])) (by simpa using hpr)
    have t4 := ((s1.trans s2).trans (s3.trans s4)).sub (G := [r]) (by simp)
    have hc : c = 0 ∨ c = 1 := by omega
    rcases hc with rfl | rfl
    · exact ixL (.inl (.inl hl)) (x := .int (a - 9)) rfl (k _ H4 (by omega) (by omega) hR4 t4)
    · exact ixL (.inl (.inl hl)) (x := .int (b - 999)) rfl (k _ H4 (by omega) (by omega) hR4 t4)
end
end Mx

namespace Mx
open PySem L2
set_option hygiene false in
local macro_rules | `(tactic| walk_at "rd") => `(tactic| try simp only [L2.start, List.map_cons, List.map_nil, List.length_cons, List.length_nil, Nat.reduceAdd, Nat.reduceSub, Nat.reduceLT, Nat.reduceLeDiff, List.replicate_succ, List.replicate_zero, List.append_nil, List.nil_append, List.cons_append, List.set_cons_zero, List.set_cons_succ, List.getElem?_cons_zero, List.getElem?_cons_succ,
  Option.some.injEq, List.cons.injEq, and_true, true_and, and_assoc, reduceCtorEq, L2.V.int.injEq, L2.V.ref.injEq, L2.V.bl.injEq, L2.V.str.injEq, L2.V.ty.injEq, L2.HO.ins.injEq, L2.HO.lst.injEq, L2.HO.tup.injEq, L2.HO.dK.injEq, exists_eq_left', exists_eq_left, exists_eq_right, exists_eq', exists_eq, exists_and_left, exists_and_right, reduceIte, Bool.false_eq_true, Bool.not_true, Bool.not_false,
  L2.tSeq, L2.tIfS, L2.tRet, L2.tRetN, L2.tNext, L2.tAsg, L2.gName, L2.tVar, L2.tC, L2.tCons, L2.tNil, L2.tCB, L2.tOp, L2.tUn, L2.tTup, L2.tLst, L2.tB, L2.tOr, L2.tAnd, L2.tNot, L2.tAndV, L2.tOrV, L2.tNotV, L2.tIf, L2.tTest, L2.tChain, L2.rI, L2.rI0, L2.rU, L2.tDrop, L2.tNever, L2.tCall, L2.tMeth, L2.tMake, L2.rGcd, L2.tFld, L2.sFld, L2.sFldAug, Mx.sFldA, Mx.sFldAugA, L2.rAdd, L2.rSub, L2.rEq, L2.rNe, L2.tDGet, L2.tDIn, L2.tDNotIn, L2.sDPut,
  Mx.isi_int_bool, Mx.isi_int_int, Mx.isi_int_tuple, Mx.isi_int_list, Mx.isi_int_str, Mx.scal_int, Mx.scal_str, Mx.scal_bl, Mx.ofString_inj, Mx.ofString_beq, Mx.lk_cons, Mx.pf_nil, Mx.pf_cons, Mx.sz1, Mx.sz2, List.lookup_nil, String.reduceEq, decide_true, decide_false, decide_eq_true_eq, Int.natAbs_natCast, L2.upd_same, L2.upd_upd, L2.cxOf, L2.gSub])
set_option hygiene false in
local macro_rules | `(tactic| walk_at "rds") => `(tactic| try simp only [L2.start, List.map_cons, List.map_nil, List.length_cons, List.length_nil, Nat.reduceAdd, Nat.reduceSub, Nat.reduceLT, Nat.reduceLeDiff, List.replicate_succ, List.replicate_zero, List.append_nil, List.nil_append, List.cons_append, List.set_cons_zero, List.set_cons_succ, List.getElem?_cons_zero, List.getElem?_cons_succ,
  Option.some.injEq, List.cons.injEq, and_true, true_and, and_assoc, reduceCtorEq, L2.V.int.injEq, L2.V.ref.injEq, L2.V.bl.injEq, L2.V.str.injEq, L2.V.ty.injEq, L2.HO.ins.injEq, L2.HO.lst.injEq, L2.HO.tup.injEq, L2.HO.dK.injEq, exists_eq_left', exists_eq_left, exists_eq_right, exists_eq', exists_eq, exists_and_left, exists_and_right, reduceIte, Bool.false_eq_true, Bool.not_true, Bool.not_false,
  L2.tSeq, L2.tIfS, L2.tRet, L2.tRetN, L2.tNext, L2.tAsg, L2.gName, L2.tVar, L2.tC, L2.tCons, L2.tNil, L2.tCB, L2.tOp, L2.tUn, L2.tTup, L2.tLst, L2.tB, L2.tOr, L2.tAnd, L2.tNot, L2.tAndV, L2.tOrV, L2.tNotV, L2.tIf, L2.tTest, L2.tChain, L2.rI, L2.rI0, L2.rU, L2.tDrop, L2.tNever, L2.tCall, L2.tMeth, L2.tMake, L2.rGcd, L2.tFld, L2.sFld, L2.sFldAug, Mx.sFldA, Mx.sFldAugA, L2.rAdd, L2.rSub, L2.rEq, L2.rNe, L2.tDGet, L2.tDIn, L2.tDNotIn, L2.sDPut,
  Mx.isi_int_bool, Mx.isi_int_int, Mx.isi_int_tuple, Mx.isi_int_list, Mx.isi_int_str, Mx.scal_int, Mx.scal_str, Mx.scal_bl, Mx.ofString_inj, Mx.ofString_beq, Mx.lk_cons, Mx.pf_nil, Mx.pf_cons, Mx.sz1, Mx.sz2, List.lookup_nil, String.reduceEq, decide_true, decide_false, decide_eq_true_eq, Int.natAbs_natCast, L2.upd_same, L2.upd_upd, L2.cxOf, L2.gSub, *])

section
variable {P : Program} {w : World} {K : PySem.W.Frag} {mg : Str → Option Value} {base : Heap}
theorem row_ne {H : Hp} {r sc p : Addr} {ns : List Int} (h : RowAt K H r sc ns) (hp : H p = none) : p ≠ r := by
  obtain ⟨_, _, _, _, _, hr2, _⟩ := h
  exact (ne_of_none hr2 hp).symm
/-! ### the same, and of the same kinds -/
def sp_alike_int : Sp := fun vs H Q _ => ∃ (a b : Int), vs = [.int a, .int b] ∧ Q (.bl (decide (a = b))) H
theorem sc_law_alike : FnScope ["_law_found", "_law_due", "_law_k"] ["_law_found", "_law_due"] (defScope s_law_alike) := ⟨rfl, rfl, rfl, by decide +kernel, rfl, by decide +kernel, by decide +kernel⟩
theorem ok_alike_int {f : Addr} {fd : FuncData} (F : Fun K "_law_alike" "_law_alike" s_law_alike f fd) (B : Blt mg) : FnOk P w K mg base CX0 1 f fd ["_law_found", "_law_due"] sp_alike_int := by
  refine F.ok sc_law_alike (fun vs H Q E h => ?_) (fun cdv A outer s H vs Q E hr h => ?_)
  · obtain ⟨a, b, rfl, _⟩ := h
    rfl
  · obtain ⟨a, b, rfl, k⟩ := h
    refine ⟨_, pss_cons (ps_if (PW.pt (pw_or (pt_val (b_isi B (pv 1) B.tuple PyProof.Rows.boot_tuple)) (pw_or1 (pt_val (b_isi B (pv 1) B.list PyProof.Rows.boot_list))))) pss_never pss_nil)
      (pss_cons (ps_if (PW.pt (pw_or (pt_cmpR op_isN (pv 1) pe_non (nomark _)) (pw_or1 (pt_cmpR op_isN (pv 0) pe_non (nomark _))))) pss_never pss_nil)
      (pss_cons (ps_if (PW.pt (pw_or (pt_val (b_isi B (pv 1) B.bool PyProof.Rows.boot_bool)) (pw_or1 (pt_val (b_isi B (pv 0) B.bool PyProof.Rows.boot_bool))))) pss_never pss_nil)
      (pss_cons (ps_if (pt_val (b_isi B (pv 1) B.str PyProof.Rows.boot_str)) pss_never pss_nil)
      (pss_one (ps_ret (pe_and (b_isi B (pv 0) B.int PyProof.Rows.boot_int) (pe_one (pe_cmpR op_eq (pv 0) (pv 1) (nomark _))))))))), ?_⟩
    walk_at "rd"
    exact k
def sp_alike_tup (K : PySem.W.Frag) : Sp := fun vs H Q _ => ∃ (a b : Addr) (xs ys : List Int), vs = [.ref a, .ref b] ∧ TupAt K H a (xs.map V.int) ∧ TupAt K H b (ys.map V.int) ∧ xs.length = ys.length ∧ ys.length ≤ 60 ∧ ∀ H', Stp [] H H' → Q (.bl (decide (xs = ys))) H'
theorem tyx_tup {H : Hp} {a : Addr} {xs : List V} (h : TupAt K H a xs) : TyX K H (.ref a) (.type "tuple") := by
  rcases h with h | h
  · exact .base (.tup h)
  · rcases h (fun _ => none) with (q | ⟨o, q⟩) | ⟨o, its, n, h1, h2, _⟩
    · cases q
    · cases q
    · exact .kTuple h1 h2
theorem isi_tupA {H : Hp} {Q : VK} {a : Addr} {xs : List V} {T : String} {b : Bool} (h : TupAt K H a xs) (hb : kitB "tuple" T = some b) (q : Q (.bl b) H) : rIsi K [.ref a, .ty T] H Q := ⟨_, _, _, _, _, rfl, .ty _, tyx_tup h, kit_ty hb, q⟩
theorem dp_ints {H : Hp} : ∀ (ns : List Int), DpAll K H (ns.map V.int) (ns.map PyData.int)
  | [] => .nil
  | n :: r => .cons (.int n) (dp_ints r)
theorem eqv_nil (ns : List Int) : PyData.eqv (.list (ns.map PyData.int)) (.list []) = ns.isEmpty := by
  cases ns with
  | nil => rfl
  | cons n r => rfl
def diffs (xs ys : List Int) (i : Nat) : List Int := ((List.range i).filter fun j => decide (xs[j]? ≠ ys[j]?)).map fun j => ((j : Nat) : Int)
theorem diffs_succ (xs ys : List Int) (i : Nat) : diffs xs ys (i + 1) = diffs xs ys i ++ (if xs[i]? ≠ ys[i]? then [(i : Int)] else []) := by
  unfold diffs
  rw [List.range_succ, List.filter_append, List.map_append]
  congr 1
  by_cases h : xs[i]? ≠ ys[i]?
  · rw [if_pos h, List.filter_cons_of_pos (by simpa using h)]
    rfl
  · rw [if_neg h, List.filter_cons_of_neg (by simpa using h)]
    rfl
theorem diffs_len (xs ys : List Int) (i : Nat) : (diffs xs ys i).length ≤ i := by
  unfold diffs
  rw [List.length_map]
  refine Nat.le_trans (List.length_filter_le _ _) ?_
  rw [List.length_range]
  exact Nat.le_refl _
theorem diffs_nil {xs ys : List Int} (h : xs.length = ys.length) : (diffs xs ys ys.length).isEmpty = decide (xs = ys) := by
  by_cases e : xs = ys
  · subst e
    simp [diffs]
  · rw [decide_eq_false e]
    unfold diffs
    cases q : ((List.range ys.length).filter fun j => decide (xs[j]? ≠ ys[j]?)) with
    | cons a r => rfl
    | nil =>
      exfalso
      apply e
      apply List.ext_getElem? 
      intro j
      by_cases hj : j < ys.length
      · have := List.filter_eq_nil_iff.mp q j (List.mem_range.mpr hj)
        simpa using this
      · rw [List.getElem?_eq_none (by omega), List.getElem?_eq_none (by omega)]
theorem ok_alike_tup {f : Addr} {fd : FuncData} (F : Fun K "_law_alike" "_law_alike" s_law_alike f fd) (B : Blt mg) (G : OwnF P w K mg base "_law_alike" 1 ["_law_found", "_law_due"] sp_alike_int) : FnOk P w K mg base CX0 2 f fd ["_law_found", "_law_due"] (sp_alike_tup K) := by
  refine F.ok sc_law_alike (fun vs H Q E h => ?_) (fun cdv A outer s H vs Q E hr h => ?_)
  · obtain ⟨a, b, xs, ys, rfl, _⟩ := h
    rfl
  · obtain ⟨a, b, xs, ys, rfl, ha, hb, hl, hlen, k⟩ := h
    have hu := hu_of hr
    have hu64 : (A.deeper (PyProof.Rows.envOfC "_law_alike" (defScope s_law_alike) s.heap.objs.size f cdv)).units + 64 < cLine := by
      have := hr.un
      omega
    refine ⟨_, pss_cons (ps_if (PW.pt (pw_or (pt_val (b_isi B (pv 1) B.tuple PyProof.Rows.boot_tuple)) (pw_or1 (pt_val (b_isi B (pv 1) B.list PyProof.Rows.boot_list)))))
        (pss_cons (ps_if (PW.pt (pw_or (pt_cmpR op_ne (b_isi B (pv 0) B.tuple PyProof.Rows.boot_tuple) (b_isi B (pv 1) B.tuple PyProof.Rows.boot_tuple) (nomark _)) (pw_or1 (pt_not (pt_val (pe_callB call_isiT (by rfl) B.isi PyProof.Rows.boot_isinstance (pa_cons (pv 0) (pa_cons (pe_tup (pa_cons (pe_bltn (v := .ty "tuple") (by rfl) B.tuple PyProof.Rows.boot_tuple rfl) (pa_cons (pe_bltn (v := .ty "list") (by rfl) B.list PyProof.Rows.boot_list rfl) pa_nil))) pa_nil)))))))) pss_never pss_nil)
        (pss_cons (ps_if (pt_cmpR op_ne (pe_callB call_len_seq (by rfl) B.len PySem.boot_len (pa_cons (pv 0) pa_nil)) (pe_callB call_len_seq (by rfl) B.len PySem.boot_len (pa_cons (pv 1) pa_nil)) (nomark _)) pss_never pss_nil)
        (pss_one (ps_ret (pe_cmpR (op_eqD hu64) (pe_lc (own := [("_law_k", 2)]) (te := tVar 2) (tt := tNot (tB (tCall sp_alike_int [] E0 (tCons (tOp (rIxT K) (tVar 0) (tVar 2)) (tCons (tOp (rIxT K) (tVar 1) (tVar 2)) tNil)))))
            rfl sc_law_alike.nd (pi_range1 (by rfl) B.range (pa_cons (pe_callB call_len_seq (by rfl) B.len PySem.boot_len (pa_cons (pv 1) pa_nil)) pa_nil)) (blkOk_by (N := ["_law_found", "_law_due", "_law_k"]) (sc := defScope s_law_alike) (by decide +kernel))
            (fun _ _ _ _ _ => pg_name (i := 2) sc_law_alike.nd rfl (.inl rfl)) (fun _ _ _ _ _ => pts_one (pt_not (pt_val (p_call G hr (pa_cons (pe_ix ix_tup (pv 0) (pv 2) (fun _ _ => rfl)) (pa_cons (pe_ix ix_tup (pv 1) (pv 2) (fun _ _ => rfl)) pa_nil)))))) (fun _ _ _ _ _ => pv 2)) (pe_lst pa_nil) (nomark _)))))) pss_nil)
      pss_never, ?_⟩
    walk_at "rd"
    refine isi_tupA hb (b := true) (by decide +kernel) ?_
    walk_at "rd"
    refine isi_tupA ha (b := true) (by decide +kernel) (isi_tupA hb (b := true) (by decide +kernel) ?_)
    walk_at "rd"
    intro T hT
    have s1 := Stp.new (o := .tup [.ty "tuple", .ty "list"]) hT
    refine ⟨.ref a, T, _, _, _, true, rfl, upd_same, .cons (.ty _) (.cons (.ty _) .nil), tyx_tup (ha.st s1), kitAny_cons (b := true) (kit_ty (by decide +kernel)) (fun z => nomatch z) (fun _ => rfl), ?_⟩
    have ha1 := ha.st s1
    have hb1 := hb.st s1
    generalize upd H T (.tup [.ty "tuple", .ty "list"]) = H1 at *
    walk_at "rd"
    refine ⟨_, .inr ha1.sq, _, .inr hb1.sq, ?_⟩
    walk_at "rd"
    rw [decide_eq_true (show (((xs.map V.int).length : Nat) : Int) = (((ys.map V.int).length : Nat) : Int) by rw [List.length_map, List.length_map, hl])]
    refine iteF ?_
    have hn : (((ys.map V.int).length : Nat) : Int).toNat = ys.length := by rw [List.length_map]; omega
    have hn2 : (((ys.map V.int).length : Nat) : Int) ≤ 60 := by rw [List.length_map]; omega
    refine ⟨_, rfl, b, rfl, _, .inr hb1.sq, _, rfl, by omega, by omega, ?_⟩
    rw [hn]
    intro D hD
    refine lc_range (lo := 0) (n := ys.length) (fun i H' => Stp [] H1 H' ∧ H' D = some (.lst ((diffs xs ys i).map V.int))) ⟨Stp.new hD, upd_same⟩ (fun i H' hi h => ?_) (fun H' h => ?_)
    · obtain ⟨s2, hl2⟩ := h
      have ha2 := ha1.st s2
      have hb2 := hb1.st s2
      have hx : xs[i]? = some (xs[i]'(by omega)) := List.getElem?_eq_getElem _
      have hy : ys[i]? = some (ys[i]'hi) := List.getElem?_eq_getElem _
      have atx : ∀ (zs : List Int) (hz : i < zs.length), atI (zs.map V.int) (0 + (i : Int)) = some (.int (zs[i]'hz)) := by
        intro zs hz
        unfold atI ixN
        rw [if_pos (by omega), List.length_map, if_pos (by omega)]
        show (zs.map V.int)[(0 + (i : Int)).toNat]? = _
        rw [show (0 + (i : Int)).toNat = i by omega, List.getElem?_map, List.getElem?_eq_getElem hz]
        rfl
      refine ⟨wipe1, ⟨_, rfl, _, rfl, a, _, _, _, rfl, rfl, ha2.sq, atx xs (by omega), _, rfl, _, rfl, b, _, _, _, rfl, rfl, hb2.sq, atx ys hi, _, _, rfl, _, rfl, ?_⟩⟩
      have hds := diffs_succ xs ys i
      rw [hx, hy] at hds
      by_cases e : xs[i]'(by omega) = ys[i]'hi
      · rw [decide_eq_true e]
        rw [if_neg (by rw [e]; simp), List.append_nil] at hds
        refine iteF ?_
        rw [hds]
        exact ⟨s2, hl2⟩
      · rw [decide_eq_false e]
        rw [if_pos (by simpa using e)] at hds
        refine iteT ⟨_, rfl, _, hl2, ?_, ?_, ?_⟩
        · rw [List.length_map]
          have := diffs_len xs ys i
          exact Nat.lt_of_le_of_lt (show _ ≤ 100 by omega) (by decide)
        · exact stp_acc s2 hD (by rw [hl2]; intro ys z; cases z)
        · rw [upd_same, hds, List.map_append]
          congr 3
          show V.int (0 + (i : Int)) :: [] = _
          rw [Int.zero_add]
          rfl
    · obtain ⟨s2, hl2⟩ := h
      refine ⟨Nat.zero_le _, fun p hp => ?_⟩
      have s3 := Stp.new (o := .lst []) hp
      refine ⟨_, _, .lst (.inl (.inl (s3.keep _ _ hl2 (by simp)))) (dp_ints _), .lst (.inl (.inl upd_same)) .nil, ?_, rfl, ?_⟩
      · exact PySem.W.ke_shaped_ints _
      · rw [eqv_nil, diffs_nil hl]
        exact k _ (s1.trans (s2.trans s3))
end
end Mx

namespace Mx
open PySem L2
set_option hygiene false in
local macro_rules | `(tactic| walk_at "rd") => `(tactic| try simp only [L2.start, List.map_cons, List.map_nil, List.length_cons, List.length_nil, Nat.reduceAdd, Nat.reduceSub, Nat.reduceLT, Nat.reduceLeDiff, List.replicate_succ, List.replicate_zero, List.append_nil, List.nil_append, List.cons_append, List.set_cons_zero, List.set_cons_succ, List.getElem?_cons_zero, List.getElem?_cons_succ,
  Option.some.injEq, List.cons.injEq, and_true, true_and, and_assoc, reduceCtorEq, L2.V.int.injEq, L2.V.ref.injEq, L2.V.bl.injEq, L2.V.str.injEq, L2.V.ty.injEq, L2.HO.ins.injEq, L2.HO.lst.injEq, L2.HO.tup.injEq, L2.HO.dK.injEq, exists_eq_left', exists_eq_left, exists_eq_right, exists_eq', exists_eq, exists_and_left, exists_and_right, reduceIte, Bool.false_eq_true, Bool.not_true, Bool.not_false,
  L2.tSeq, L2.tIfS, L2.tRet, L2.tRetN, L2.tNext, L2.tAsg, L2.gName, L2.tVar, L2.tC, L2.tCons, L2.tNil, L2.tCB, L2.tOp, L2.tUn, L2.tTup, L2.tLst, L2.tB, L2.tOr, L2.tAnd, L2.tNot, L2.tAndV, L2.tOrV, L2.tNotV, L2.tIf, L2.tTest, L2.tChain, L2.rI, L2.rI0, L2.rU, L2.tDrop, L2.tNever, L2.tCall, L2.tMeth, L2.tMake, L2.rGcd, L2.tFld, L2.sFld, L2.sFldAug, Mx.sFldA, Mx.sFldAugA, L2.rAdd, L2.rSub, L2.rEq, L2.rNe, L2.tDGet, L2.tDIn, L2.tDNotIn, L2.sDPut,
  Mx.isi_int_bool, Mx.isi_int_int, Mx.isi_int_tuple, Mx.isi_int_list, Mx.isi_int_str, Mx.scal_int, Mx.scal_str, Mx.scal_bl, Mx.ofString_inj, Mx.ofString_beq, Mx.lk_cons, Mx.pf_nil, Mx.pf_cons, Mx.sz1, Mx.sz2, List.lookup_nil, String.reduceEq, decide_true, decide_false, decide_eq_true_eq, Int.natAbs_natCast, L2.upd_same, L2.upd_upd, L2.cxOf, L2.gSub])
set_option hygiene false in
local macro_rules | `(tactic| walk_at "rds") => `(tactic| try simp only [L2.start, List.map_cons, List.map_nil, List.length_cons, List.length_nil, Nat.reduceAdd, Nat.reduceSub, Nat.reduceLT, Nat.reduceLeDiff, List.replicate_succ, List.replicate_zero, List.append_nil, List.nil_append, List.cons_append, List.set_cons_zero, List.set_cons_succ, List.getElem?_cons_zero, List.getElem?_cons_succ,
  Option.some.injEq, List.cons.injEq, and_true, true_and, and_assoc, reduceCtorEq, L2.V.int.injEq, L2.V.ref.injEq, L2.V.bl.injEq, L2.V.str.injEq, L2.V.ty.injEq, L2.HO.ins.injEq, L2.HO.lst.injEq, L2.HO.tup.injEq, L2.HO.dK.injEq, exists_eq_left', exists_eq_left, exists_eq_right, exists_eq', exists_eq, exists_and_left, exists_and_right, reduceIte, Bool.false_eq_true, Bool.not_true, Bool.not_false,
  L2.tSeq, L2.tIfS, L2.tRet, L2.tRetN, L2.tNext, L2.tAsg, L2.gName, L2.tVar, L2.tC, L2.tCons, L2.tNil, L2.tCB, L2.tOp, L2.tUn, L2.tTup, L2.tLst, L2.tB, L2.tOr, L2.tAnd, L2.tNot, L2.tAndV, L2.tOrV, L2.tNotV, L2.tIf, L2.tTest, L2.tChain, L2.rI, L2.rI0, L2.rU, L2.tDrop, L2.tNever, L2.tCall, L2.tMeth, L2.tMake, L2.rGcd, L2.tFld, L2.sFld, L2.sFldAug, Mx.sFldA, Mx.sFldAugA, L2.rAdd, L2.rSub, L2.rEq, L2.rNe, L2.tDGet, L2.tDIn, L2.tDNotIn, L2.sDPut,
  Mx.isi_int_bool, Mx.isi_int_int, Mx.isi_int_tuple, Mx.isi_int_list, Mx.isi_int_str, Mx.scal_int, Mx.scal_str, Mx.scal_bl, Mx.ofString_inj, Mx.ofString_beq, Mx.lk_cons, Mx.pf_nil, Mx.pf_cons, Mx.sz1, Mx.sz2, List.lookup_nil, String.reduceEq, decide_true, decide_false, decide_eq_true_eq, Int.natAbs_natCast, L2.upd_same, L2.upd_upd, L2.cxOf, L2.gSub, *])

section
variable {P : Program} {w : World} {K : PySem.W.Frag} {mg : Str → Option Value} {base : Heap}
/-! ### the same at every place, however deep -/
def EqB (v w : V) : Prop := (∃ i, v = .int i ∧ w = .int i) ∨ (∃ x, PyData.strOk x = true ∧ v = .str x ∧ w = .str x) ∨ (v = .non ∧ w = .non)
def EqT (K : PySem.W.Frag) (H : Hp) : Nat → V → V → Prop
  | 0, v, w => EqB v w
  | n + 1, v, w => EqB v w ∨ ∃ (a b : Addr) (xs ys : List V), v = .ref a ∧ w = .ref b ∧ (TupAt K H a xs ∧ TupAt K H b ys ∨ H a = some (.lst xs) ∧ H b = some (.lst ys)) ∧ xs.length ≤ 100000 ∧ Paired (EqT K H n) xs ys
abbrev EqS (K : PySem.W.Frag) (H : Hp) (n : Nat) := Paired (EqT K H n)
theorem pr_map {α β : Type} {R S : α → β → Prop} (f : ∀ a b, R a b → S a b) : ∀ {xs : List α} {ys : List β}, Paired R xs ys → Paired S xs ys
  | _, _, .nil => .nil
  | _, _, .cons h r => .cons (f _ _ h) (pr_map f r)
theorem EqT.stF {F : List Addr} {H H' : Hp} (s : Stp F H H') (hF : ∀ b ∈ F, ∀ xs, H b ≠ some (.lst xs)) : ∀ {n : Nat} {v w : V}, EqT K H n v w → EqT K H' n v w
  | 0, _, _, h => h
  | n + 1, v, w, h => by
    rcases h with h | ⟨a, b, xs, ys, e1, e2, h, hl, hp⟩
    · exact .inl h
    · refine .inr ⟨a, b, xs, ys, e1, e2, ?_, hl, pr_map (fun _ _ q => EqT.stF s hF q) hp⟩
      rcases h with ⟨h1, h2⟩ | ⟨h1, h2⟩
      · exact .inl ⟨h1.st s, h2.st s⟩
      · exact .inr ⟨s.keep _ _ h1 fun z => hF _ z _ h1, s.keep _ _ h2 fun z => hF _ z _ h2⟩
theorem EqT.st {H H' : Hp} {n : Nat} {v w : V} (h : EqT K H n v w) (s : Stp [] H H') : EqT K H' n v w := h.stF s (fun _ z => nomatch z)
theorem EqS.st {H H' : Hp} {n : Nat} {xs ys : List V} (h : Paired (EqT K H n) xs ys) (s : Stp [] H H') : Paired (EqT K H' n) xs ys := pr_map (fun _ _ q => q.st s) h
theorem EqT.up {H : Hp} : ∀ {n : Nat} {v w : V}, EqT K H n v w → EqT K H (n + 1) v w
  | 0, _, _, h => .inl h
  | n + 1, v, w, h => by
    rcases h with h | ⟨a, b, xs, ys, e1, e2, h, hl, hp⟩
    · exact .inl h
    · exact .inr ⟨a, b, xs, ys, e1, e2, h, hl, pr_map (fun _ _ q => q.up) hp⟩
theorem pr_get {α β : Type} {R : α → β → Prop} : ∀ {xs : List α} {ys : List β}, Paired R xs ys → ∀ i, i < xs.length → i < ys.length → ∃ x y, xs[i]? = some x ∧ ys[i]? = some y ∧ R x y
  | _, _, .nil, _, h, _ => absurd h (Nat.not_lt_zero _)
  | _, _, .cons h _, 0, _, _ => ⟨_, _, rfl, rfl, h⟩
  | _, _, .cons _ r, i + 1, h1, h2 => by
    obtain ⟨x, y, e1, e2, q⟩ := pr_get r i (Nat.lt_of_succ_lt_succ h1) (Nat.lt_of_succ_lt_succ h2)
    exact ⟨x, y, e1, e2, q⟩
theorem at_pos {xs : List V} {i : Nat} {x : V} (h : xs[i]? = some x) : atI xs (0 + (i : Int)) = some x := by
  obtain ⟨hl, _⟩ := List.getElem?_eq_some_iff.mp h
  unfold atI ixN
  rw [if_pos (by omega), if_pos (by omega)]
  show xs[(0 + (i : Int)).toNat]? = _
  rw [show (0 + (i : Int)).toNat = i by omega]
  exact h
theorem isi_lstA {H : Hp} {Q : VK} {a : Addr} {xs : List V} {T : String} {b : Bool} (h : H a = some (.lst xs)) (hb : kitB "list" T = some b) (q : Q (.bl b) H) : rIsi K [.ref a, .ty T] H Q := ⟨_, _, _, _, _, rfl, .ty _, .base (.lst h), kit_ty hb, q⟩
theorem isi_strA {H : Hp} {Q : VK} {x : Str} {T : String} {b : Bool} (hb : kitB "str" T = some b) (q : Q (.bl b) H) : rIsi K [.str x, .ty T] H Q := ⟨_, _, _, _, _, rfl, .ty _, .base (.str x), kit_ty hb, q⟩
theorem isi_nonA {H : Hp} {Q : VK} {T : String} {b : Bool} (hb : kitB "NoneType" T = some b) (q : Q (.bl b) H) : rIsi K [.non, .ty T] H Q := ⟨_, _, _, _, _, rfl, .ty _, .base .non, kit_ty hb, q⟩
def sp_eq (K : PySem.W.Frag) (n : Nat) : Sp := fun vs H Q _ => ∃ v w, vs = [v, w] ∧ EqT K H n v w ∧ ∀ H', Stp [] H H' → Q (.bl true) H'
theorem ok_alike_deep {f : Addr} {fd : FuncData} (F : Fun K "_law_alike" "_law_alike" s_law_alike f fd) (B : Blt mg) (hm : mg "_law_alike" = some (.ref f)) (hk : PySem.W.keepIn K (.ref f) = true) (hb : Binds K fd ["_law_found", "_law_due"] []) :
    ∀ n, FnOk P w K mg base CX0 (n + 1) f fd ["_law_found", "_law_due"] (sp_eq K n)
  | 0 => by
    refine F.ok sc_law_alike (fun vs H Q E h => ?_) (fun cdv A outer s H vs Q E hr h => ?_)
    · obtain ⟨v, w', rfl, _⟩ := h
      rfl
    obtain ⟨v, w', rfl, h, k⟩ := h
    rcases h with ⟨i, rfl, rfl⟩ | ⟨x, hx, rfl, rfl⟩ | ⟨rfl, rfl⟩
    · refine ⟨_, pss_cons (ps_if (PW.pt (pw_or (pt_val (b_isi B (pv 1) B.tuple PyProof.Rows.boot_tuple)) (pw_or1 (pt_val (b_isi B (pv 1) B.list PyProof.Rows.boot_list))))) pss_never pss_nil)
      (pss_cons (ps_if (PW.pt (pw_or (pt_cmpR op_isN (pv 1) pe_non (nomark _)) (pw_or1 (pt_cmpR op_isN (pv 0) pe_non (nomark _))))) (pss_one (ps_ret (pe_and (pe_cmpR op_isN (pv 1) pe_non (nomark _)) (pe_one (pe_cmpR op_isN (pv 0) pe_non (nomark _)))))) pss_nil)
      (pss_cons (ps_if (PW.pt (pw_or (pt_val (b_isi B (pv 1) B.bool PyProof.Rows.boot_bool)) (pw_or1 (pt_val (b_isi B (pv 0) B.bool PyProof.Rows.boot_bool))))) pss_never pss_nil)
      (pss_cons (ps_if (pt_val (b_isi B (pv 1) B.str PyProof.Rows.boot_str)) (pss_one (ps_ret (pe_and (b_isi B (pv 0) B.str PyProof.Rows.boot_str) (pe_one (pe_cmpR op_eq (pv 0) (pv 1) (nomark _)))))) pss_nil)
      (pss_one (ps_ret (pe_and (b_isi B (pv 0) B.int PyProof.Rows.boot_int) (pe_one (pe_cmpR op_eq (pv 0) (pv 1) (nomark _))))))))), ?_⟩
      walk_at "rd"
      exact k _ Stp.refl
    · refine ⟨_, pss_cons (ps_if (PW.pt (pw_or (pt_val (b_isi B (pv 1) B.tuple PyProof.Rows.boot_tuple)) (pw_or1 (pt_val (b_isi B (pv 1) B.list PyProof.Rows.boot_list))))) pss_never pss_nil)
      (pss_cons (ps_if (PW.pt (pw_or (pt_cmpR op_isN (pv 1) pe_non (nomark _)) (pw_or1 (pt_cmpR op_isN (pv 0) pe_non (nomark _))))) (pss_one (ps_ret (pe_and (pe_cmpR op_isN (pv 1) pe_non (nomark _)) (pe_one (pe_cmpR op_isN (pv 0) pe_non (nomark _)))))) pss_nil)
      (pss_cons (ps_if (PW.pt (pw_or (pt_val (b_isi B (pv 1) B.bool PyProof.Rows.boot_bool)) (pw_or1 (pt_val (b_isi B (pv 0) B.bool PyProof.Rows.boot_bool))))) pss_never pss_nil)
      (pss_cons (ps_if (pt_val (b_isi B (pv 1) B.str PyProof.Rows.boot_str)) (pss_one (ps_ret (pe_and (b_isi B (pv 0) B.str PyProof.Rows.boot_str) (pe_one (pe_cmpR op_eq (pv 0) (pv 1) (nomark _)))))) pss_nil)
      (pss_one (ps_ret (pe_and (b_isi B (pv 0) B.int PyProof.Rows.boot_int) (pe_one (pe_cmpR op_eq (pv 0) (pv 1) (nomark _))))))))), ?_⟩
      walk_at "rd"
      refine isi_strA (b := false) (by decide +kernel) ?_
      walk_at "rd"
      refine isi_strA (b := false) (by decide +kernel) ?_
      walk_at "rd"
      refine isi_strA (b := false) (by decide +kernel) ?_
      walk_at "rd"
      refine isi_strA (b := false) (by decide +kernel) ?_
      walk_at "rd"
      refine isi_strA (b := true) (by decide +kernel) ?_
      walk_at "rd"
      refine isi_strA (b := true) (by decide +kernel) ?_
      walk_at "rd"
      exact k _ Stp.refl
    · refine ⟨_, pss_cons (ps_if (PW.pt (pw_or (pt_val (b_isi B (pv 1) B.tuple PyProof.Rows.boot_tuple)) (pw_or1 (pt_val (b_isi B (pv 1) B.list PyProof.Rows.boot_list))))) pss_never pss_nil)
      (pss_cons (ps_if (PW.pt (pw_or (pt_cmpR op_isN (pv 1) pe_non (nomark _)) (pw_or1 (pt_cmpR op_isN (pv 0) pe_non (nomark _))))) (pss_one (ps_ret (pe_and (pe_cmpR op_isN (pv 1) pe_non (nomark _)) (pe_one (pe_cmpR op_isN (pv 0) pe_non (nomark _)))))) pss_nil)
      (pss_cons (ps_if (PW.pt (pw_or (pt_val (b_isi B (pv 1) B.bool PyProof.Rows.boot_bool)) (pw_or1 (pt_val (b_isi B (pv 0) B.bool PyProof.Rows.boot_bool))))) pss_never pss_nil)
      (pss_cons (ps_if (pt_val (b_isi B (pv 1) B.str PyProof.Rows.boot_str)) (pss_one (ps_ret (pe_and (b_isi B (pv 0) B.str PyProof.Rows.boot_str) (pe_one (pe_cmpR op_eq (pv 0) (pv 1) (nomark _)))))) pss_nil)
      (pss_one (ps_ret (pe_and (b_isi B (pv 0) B.int PyProof.Rows.boot_int) (pe_one (pe_cmpR op_eq (pv 0) (pv 1) (nomark _))))))))), ?_⟩
      walk_at "rd"
      refine isi_nonA (b := false) (by decide +kernel) ?_
      walk_at "rd"
      refine isi_nonA (b := false) (by decide +kernel) ?_
      walk_at "rd"
      exact k _ Stp.refl
  | n + 1 => by
    have G : OwnF P w K mg base "_law_alike" (n + 1) ["_law_found", "_law_due"] (sp_eq K n) := ⟨f, fd, ok_alike_deep F B hm hk hb n, hm, hk, hb⟩
    refine F.ok sc_law_alike (fun vs H Q E h => ?_) (fun cdv A outer s H vs Q E hr h => ?_)
    · obtain ⟨v, w', rfl, _⟩ := h
      rfl
    have hu64 : (A.deeper (PyProof.Rows.envOfC "_law_alike" (defScope s_law_alike) s.heap.objs.size f cdv)).units + 64 < cLine := by
      have := hr.un
      omega
    obtain ⟨v, w', rfl, h, k⟩ := h
    rcases h with h | ⟨a, b, xs, ys, rfl, rfl, ⟨ha, hb⟩ | ⟨ha, hb⟩, hlen, hp⟩
    rotate_left
    · refine ⟨_, pss_cons (ps_if (PW.pt (pw_or (pt_val (b_isi B (pv 1) B.tuple PyProof.Rows.boot_tuple)) (pw_or1 (pt_val (b_isi B (pv 1) B.list PyProof.Rows.boot_list))))) (pss_cons (ps_if (PW.pt (pw_or (pt_cmpR op_ne (b_isi B (pv 0) B.tuple PyProof.Rows.boot_tuple) (b_isi B (pv 1) B.tuple PyProof.Rows.boot_tuple) (nomark _)) (pw_or1 (pt_not (pt_val (pe_callB call_isiT (by rfl) B.isi PyProof.Rows.boot_isinstance (pa_cons (pv 0) (pa_cons (pe_tup (pa_cons (pe_bltn (v := .ty "tuple") (by rfl) B.tuple PyProof.Rows.boot_tuple rfl) (pa_cons (pe_bltn (v := .ty "list") (by rfl) B.list PyProof.Rows.boot_list rfl) pa_nil))) pa_nil)))))))) pss_never pss_nil)
          (pss_cons (ps_if (pt_cmpR op_ne (pe_callB call_len_seq (by rfl) B.len PySem.boot_len (pa_cons (pv 0) pa_nil)) (pe_callB call_len_seq (by rfl) B.len PySem.boot_len (pa_cons (pv 1) pa_nil)) (nomark _)) pss_never pss_nil)
          (pss_one (ps_ret (pe_cmpR (op_eqD hu64) (pe_lc (own := [("_law_k", 2)]) (te := tVar 2) (tt := tNot (tB (tCall (sp_eq K n) [] E0 (tCons (tOp (rIxT K) (tVar 0) (tVar 2)) (tCons (tOp (rIxT K) (tVar 1) (tVar 2)) tNil)))))
              rfl sc_law_alike.nd (pi_range1 (by rfl) B.range (pa_cons (pe_callB call_len_seq (by rfl) B.len PySem.boot_len (pa_cons (pv 1) pa_nil)) pa_nil)) (blkOk_by (N := ["_law_found", "_law_due", "_law_k"]) (sc := defScope s_law_alike) (by decide +kernel))
              (fun _ _ _ _ _ => pg_name (i := 2) sc_law_alike.nd rfl (.inl rfl)) (fun _ _ _ _ _ => pts_one (pt_not (pt_val (p_call G hr (pa_cons (pe_ix ix_tup (pv 0) (pv 2) (fun _ _ => rfl)) (pa_cons (pe_ix ix_tup (pv 1) (pv 2) (fun _ _ => rfl)) pa_nil)))))) (fun _ _ _ _ _ => pv 2)) (pe_lst pa_nil) (nomark _)))))) pss_nil)
        pss_never, ?_⟩
      walk_at "rd"
      refine isi_tupA hb (b := true) (by decide +kernel) ?_
      walk_at "rd"
      refine isi_tupA ha (b := true) (by decide +kernel) (isi_tupA hb (b := true) (by decide +kernel) ?_)
      walk_at "rd"
      intro T hT
      have s1 := Stp.new (o := .tup [.ty "tuple", .ty "list"]) hT
      refine ⟨.ref a, T, _, _, _, true, rfl, upd_same, .cons (.ty _) (.cons (.ty _) .nil), tyx_tup (ha.st s1), kitAny_cons (b := true) (kit_ty (by decide +kernel)) (fun z => nomatch z) (fun _ => rfl), ?_⟩
      have ha1 := ha.st s1
      have hb1 := hb.st s1
      have hp1 := EqS.st hp s1
      generalize upd H T (.tup [.ty "tuple", .ty "list"]) = H1 at *
      walk_at "rd"
      refine ⟨_, .inr ha1.sq, _, .inr hb1.sq, ?_⟩
      walk_at "rd"
      have hl := hp.length
      rw [decide_eq_true (show ((xs.length : Nat) : Int) = ((ys.length : Nat) : Int) by rw [hl])]
      refine iteF ?_
      refine ⟨_, rfl, b, rfl, _, .inr hb1.sq, _, rfl, by omega, by omega, ?_⟩
      intro D hD
      refine lc_range (lo := 0) (n := ((ys.length : Nat) : Int).toNat) (fun i H' => Stp [] H1 H' ∧ H' D = some (.lst [])) ⟨Stp.new hD, upd_same⟩ (fun i H' hi h => ?_) (fun H' h => ?_)
      · obtain ⟨s2, hl2⟩ := h
        have hi' : i < ys.length := by omega
        have ha2 := ha1.st s2
        have hb2 := hb1.st s2
        obtain ⟨x, y, hx, hy, hxy⟩ := pr_get (EqS.st hp1 s2) i (by omega) hi'
        refine ⟨wipe1, ⟨_, rfl, _, rfl, a, _, _, _, rfl, rfl, ha2.sq, at_pos hx, _, rfl, _, rfl, b, _, _, _, rfl, rfl, hb2.sq, at_pos hy, ?_⟩⟩
        refine ⟨x, y, rfl, hxy, fun H3 s3 => ⟨_, rfl, iteF ?_⟩⟩
        exact ⟨s2.trans s3, s3.keep _ _ hl2 (by simp)⟩
      · obtain ⟨s2, hl2⟩ := h
        refine ⟨Nat.zero_le _, fun p hp => ?_⟩
        have s3 := Stp.new (o := .lst []) hp
        refine ⟨_, _, .lst (.inl (.inl (s3.keep _ _ hl2 (by simp)))) .nil, .lst (.inl (.inl upd_same)) .nil, rfl, rfl, ?_⟩
        exact k _ (s1.trans (s2.trans s3))
    · refine ⟨_, pss_cons (ps_if (PW.pt (pw_or (pt_val (b_isi B (pv 1) B.tuple PyProof.Rows.boot_tuple)) (pw_or1 (pt_val (b_isi B (pv 1) B.list PyProof.Rows.boot_list))))) (pss_cons (ps_if (PW.pt (pw_or (pt_cmpR op_ne (b_isi B (pv 0) B.tuple PyProof.Rows.boot_tuple) (b_isi B (pv 1) B.tuple PyProof.Rows.boot_tuple) (nomark _)) (pw_or1 (pt_not (pt_val (pe_callB call_isiT (by rfl) B.isi PyProof.Rows.boot_isinstance (pa_cons (pv 0) (pa_cons (pe_tup (pa_cons (pe_bltn (v := .ty "tuple") (by rfl) B.tuple PyProof.Rows.boot_tuple rfl) (pa_cons (pe_bltn (v := .ty "list") (by rfl) B.list PyProof.Rows.boot_list rfl) pa_nil))) pa_nil)))))))) pss_never pss_nil)
          (pss_cons (ps_if (pt_cmpR op_ne (pe_callB call_len_seq (by rfl) B.len PySem.boot_len (pa_cons (pv 0) pa_nil)) (pe_callB call_len_seq (by rfl) B.len PySem.boot_len (pa_cons (pv 1) pa_nil)) (nomark _)) pss_never pss_nil)
          (pss_one (ps_ret (pe_cmpR (op_eqD hu64) (pe_lc (own := [("_law_k", 2)]) (te := tVar 2) (tt := tNot (tB (tCall (sp_eq K n) [] E0 (tCons (tOp (rIxL K) (tVar 0) (tVar 2)) (tCons (tOp (rIxL K) (tVar 1) (tVar 2)) tNil)))))
              rfl sc_law_alike.nd (pi_range1 (by rfl) B.range (pa_cons (pe_callB call_len_seq (by rfl) B.len PySem.boot_len (pa_cons (pv 1) pa_nil)) pa_nil)) (blkOk_by (N := ["_law_found", "_law_due", "_law_k"]) (sc := defScope s_law_alike) (by decide +kernel))
              (fun _ _ _ _ _ => pg_name (i := 2) sc_law_alike.nd rfl (.inl rfl)) (fun _ _ _ _ _ => pts_one (pt_not (pt_val (p_call G hr (pa_cons (pe_ix ix_list (pv 0) (pv 2) (fun _ _ => rfl)) (pa_cons (pe_ix ix_list (pv 1) (pv 2) (fun _ _ => rfl)) pa_nil)))))) (fun _ _ _ _ _ => pv 2)) (pe_lst pa_nil) (nomark _)))))) pss_nil)
        pss_never, ?_⟩
      walk_at "rd"
      refine isi_lstA hb (b := false) (by decide +kernel) ?_
      walk_at "rd"
      refine isi_lstA hb (b := true) (by decide +kernel) ?_
      walk_at "rd"
      refine isi_lstA ha (b := false) (by decide +kernel) (isi_lstA hb (b := false) (by decide +kernel) ?_)
      walk_at "rd"
      intro T hT
      have s1 := Stp.new (o := .tup [.ty "tuple", .ty "list"]) hT
      have ha1 := s1.keep _ _ ha (by simp)
      have hb1 := s1.keep _ _ hb (by simp)
      have hp1 := EqS.st hp s1
      refine ⟨.ref a, T, _, _, _, true, rfl, upd_same, .cons (.ty _) (.cons (.ty _) .nil), .base (.lst ha1), kitAny_cons (b := false) (kit_ty (by decide +kernel)) (fun _ => kitAny_cons (b := true) (kit_ty (by decide +kernel)) (fun z => nomatch z) (fun _ => rfl)) (fun z => nomatch z), ?_⟩
      generalize upd H T (.tup [.ty "tuple", .ty "list"]) = H1 at *
      walk_at "rd"
      refine ⟨_, .inl (.inl (.inl ha1)), _, .inl (.inl (.inl hb1)), ?_⟩
      walk_at "rd"
      have hl := hp.length
      rw [decide_eq_true (show ((xs.length : Nat) : Int) = ((ys.length : Nat) : Int) by rw [hl])]
      refine iteF ?_
      refine ⟨_, rfl, b, rfl, _, .inl (.inl (.inl hb1)), _, rfl, by omega, by omega, ?_⟩
      intro D hD
      refine lc_range (lo := 0) (n := ((ys.length : Nat) : Int).toNat) (fun i H' => Stp [] H1 H' ∧ H' D = some (.lst [])) ⟨Stp.new hD, upd_same⟩ (fun i H' hi h => ?_) (fun H' h => ?_)
      · obtain ⟨s2, hl2⟩ := h
        have hi' : i < ys.length := by omega
        have ha2 := s2.keep _ _ ha1 (by simp)
        have hb2 := s2.keep _ _ hb1 (by simp)
        obtain ⟨x, y, hx, hy, hxy⟩ := pr_get (EqS.st hp1 s2) i (by omega) hi'
        refine ⟨wipe1, ⟨_, rfl, _, rfl, a, _, _, _, rfl, rfl, (.inl (.inl ha2)), at_pos hx, _, rfl, _, rfl, b, _, _, _, rfl, rfl, (.inl (.inl hb2)), at_pos hy, ?_⟩⟩
        refine ⟨x, y, rfl, hxy, fun H3 s3 => ⟨_, rfl, iteF ?_⟩⟩
        exact ⟨s2.trans s3, s3.keep _ _ hl2 (by simp)⟩
      · obtain ⟨s2, hl2⟩ := h
        refine ⟨Nat.zero_le _, fun p hp => ?_⟩
        have s3 := Stp.new (o := .lst []) hp
        refine ⟨_, _, .lst (.inl (.inl (s3.keep _ _ hl2 (by simp)))) .nil, .lst (.inl (.inl upd_same)) .nil, rfl, rfl, ?_⟩
        exact k _ (s1.trans (s2.trans s3))
    rcases h with ⟨i, rfl, rfl⟩ | ⟨x, hx, rfl, rfl⟩ | ⟨rfl, rfl⟩
    · refine ⟨_, pss_cons (ps_if (PW.pt (pw_or (pt_val (b_isi B (pv 1) B.tuple PyProof.Rows.boot_tuple)) (pw_or1 (pt_val (b_isi B (pv 1) B.list PyProof.Rows.boot_list))))) pss_never pss_nil)
      (pss_cons (ps_if (PW.pt (pw_or (pt_cmpR op_isN (pv 1) pe_non (nomark _)) (pw_or1 (pt_cmpR op_isN (pv 0) pe_non (nomark _))))) (pss_one (ps_ret (pe_and (pe_cmpR op_isN (pv 1) pe_non (nomark _)) (pe_one (pe_cmpR op_isN (pv 0) pe_non (nomark _)))))) pss_nil)
      (pss_cons (ps_if (PW.pt (pw_or (pt_val (b_isi B (pv 1) B.bool PyProof.Rows.boot_bool)) (pw_or1 (pt_val (b_isi B (pv 0) B.bool PyProof.Rows.boot_bool))))) pss_never pss_nil)
      (pss_cons (ps_if (pt_val (b_isi B (pv 1) B.str PyProof.Rows.boot_str)) (pss_one (ps_ret (pe_and (b_isi B (pv 0) B.str PyProof.Rows.boot_str) (pe_one (pe_cmpR op_eq (pv 0) (pv 1) (nomark _)))))) pss_nil)
      (pss_one (ps_ret (pe_and (b_isi B (pv 0) B.int PyProof.Rows.boot_int) (pe_one (pe_cmpR op_eq (pv 0) (pv 1) (nomark _))))))))), ?_⟩
      walk_at "rd"
      exact k _ Stp.refl
    · refine ⟨_, pss_cons (ps_if (PW.pt (pw_or (pt_val (b_isi B (pv 1) B.tuple PyProof.Rows.boot_tuple)) (pw_or1 (pt_val (b_isi B (pv 1) B.list PyProof.Rows.boot_list))))) pss_never pss_nil)
      (pss_cons (ps_if (PW.pt (pw_or (pt_cmpR op_isN (pv 1) pe_non (nomark _)) (pw_or1 (pt_cmpR op_isN (pv 0) pe_non (nomark _))))) (pss_one (ps_ret (pe_and (pe_cmpR op_isN (pv 1) pe_non (nomark _)) (pe_one (pe_cmpR op_isN (pv 0) pe_non (nomark _)))))) pss_nil)
      (pss_cons (ps_if (PW.pt (pw_or (pt_val (b_isi B (pv 1) B.bool PyProof.Rows.boot_bool)) (pw_or1 (pt_val (b_isi B (pv 0) B.bool PyProof.Rows.boot_bool))))) pss_never pss_nil)
      (pss_cons (ps_if (pt_val (b_isi B (pv 1) B.str PyProof.Rows.boot_str)) (pss_one (ps_ret (pe_and (b_isi B (pv 0) B.str PyProof.Rows.boot_str) (pe_one (pe_cmpR op_eq (pv 0) (pv 1) (nomark _)))))) pss_nil)
      (pss_one (ps_ret (pe_and (b_isi B (pv 0) B.int PyProof.Rows.boot_int) (pe_one (pe_cmpR op_eq (pv 0) (pv 1) (nomark _))))))))), ?_⟩
      walk_at "rd"
      refine isi_strA (b := false) (by decide +kernel) ?_
      walk_at "rd"
      refine isi_strA (b := false) (by decide +kernel) ?_
      walk_at "rd"
      refine isi_strA (b := false) (by decide +kernel) ?_
      walk_at "rd"
      refine isi_strA (b := false) (by decide +kernel) ?_
      walk_at "rd"
      refine isi_strA (b := true) (by decide +kernel) ?_
      walk_at "rd"
      refine isi_strA (b := true) (by decide +kernel) ?_
      walk_at "rd"
      exact k _ Stp.refl
    · refine ⟨_, pss_cons (ps_if (PW.pt (pw_or (pt_val (b_isi B (pv 1) B.tuple PyProof.Rows.boot_tuple)) (pw_or1 (pt_val (b_isi B (pv 1) B.list PyProof.Rows.boot_list))))) pss_never pss_nil)
      (pss_cons (ps_if (PW.pt (pw_or (pt_cmpR op_isN (pv 1) pe_non (nomark _)) (pw_or1 (pt_cmpR op_isN (pv 0) pe_non (nomark _))))) (pss_one (ps_ret (pe_and (pe_cmpR op_isN (pv 1) pe_non (nomark _)) (pe_one (pe_cmpR op_isN (pv 0) pe_non (nomark _)))))) pss_nil)
      (pss_cons (ps_if (PW.pt (pw_or (pt_val (b_isi B (pv 1) B.bool PyProof.Rows.boot_bool)) (pw_or1 (pt_val (b_isi B (pv 0) B.bool PyProof.Rows.boot_bool))))) pss_never pss_nil)
      (pss_cons (ps_if (pt_val (b_isi B (pv 1) B.str PyProof.Rows.boot_str)) (pss_one (ps_ret (pe_and (b_isi B (pv 0) B.str PyProof.Rows.boot_str) (pe_one (pe_cmpR op_eq (pv 0) (pv 1) (nomark _)))))) pss_nil)
      (pss_one (ps_ret (pe_and (b_isi B (pv 0) B.int PyProof.Rows.boot_int) (pe_one (pe_cmpR op_eq (pv 0) (pv 1) (nomark _))))))))), ?_⟩
      walk_at "rd"
      refine isi_nonA (b := false) (by decide +kernel) ?_
      walk_at "rd"
      refine isi_nonA (b := false) (by decide +kernel) ?_
      walk_at "rd"
      exact k _ Stp.refl
/-! ### what == and != tell of such -/
theorem EqB.dp {H : Hp} {v w' : V} (h : EqB v w') : ∃ d, Dp K H v d ∧ Dp K H w' d ∧ d.canLay0 = true ∧ d.depth ≤ 1 ∧ PyData.eqv d d = true := by
  rcases h with ⟨i, rfl, rfl⟩ | ⟨x, hx, rfl, rfl⟩ | ⟨rfl, rfl⟩
  · exact ⟨_, .int i, .int i, by simp [PyData.canLay0], by simp [PyData.depth], by simp [PyData.eqv]⟩
  · exact ⟨_, .str x, .str x, by simpa [PyData.canLay0] using hx, by simp [PyData.depth], by simp [PyData.eqv]⟩
  · exact ⟨_, .non, .non, by simp [PyData.canLay0], by simp [PyData.depth], by simp [PyData.eqv]⟩
theorem all_dp {H : Hp} {n : Nat} (ih : ∀ v w', EqT K H n v w' → ∃ d, Dp K H v d ∧ Dp K H w' d ∧ d.canLay0 = true ∧ d.depth ≤ n + 1 ∧ PyData.eqv d d = true) : ∀ {xs ys : List V}, Paired (EqT K H n) xs ys →
    ∃ ds, DpAll K H xs ds ∧ DpAll K H ys ds ∧ PyData.canLayAll0 ds = true ∧ PyData.depthAll ds ≤ n + 1 ∧ PyData.eqvAll ds ds = true
  | _, _, .nil => ⟨[], .nil, .nil, by simp [PyData.canLayAll0], by simp [PyData.depthAll], by simp [PyData.eqvAll]⟩
  | _, _, .cons h r => by
    obtain ⟨d, a1, a2, a3, a4, a5⟩ := ih _ _ h
    obtain ⟨ds, b1, b2, b3, b4, b5⟩ := all_dp ih r
    exact ⟨d :: ds, .cons a1 b1, .cons a2 b2, by simp [PyData.canLayAll0, a3, b3], by simp only [PyData.depthAll]; omega, by simp [PyData.eqvAll, a5, b5]⟩
theorem EqT.dp {H : Hp} : ∀ (n : Nat) (v w' : V), EqT K H n v w' → ∃ d, Dp K H v d ∧ Dp K H w' d ∧ d.canLay0 = true ∧ d.depth ≤ n + 1 ∧ PyData.eqv d d = true
  | 0, v, w', h => EqB.dp h
  | n + 1, v, w', h => by
    rcases h with h | ⟨a, b, xs, ys, rfl, rfl, h, _, hp⟩
    · obtain ⟨d, a1, a2, a3, a4, a5⟩ := EqB.dp (K := K) (H := H) h
      exact ⟨d, a1, a2, a3, by omega, a5⟩
    · obtain ⟨ds, b1, b2, b3, b4, b5⟩ := all_dp (EqT.dp n) hp
      rcases h with ⟨h1, h2⟩ | ⟨h1, h2⟩
      · exact ⟨.tuple ds, .tup h1.sq b1, .tup h2.sq b2, by simp [PyData.canLay0, b3], by simp only [PyData.depth]; omega, by simp [PyData.eqv, b5]⟩
      · exact ⟨.list ds, .lst (.inl (.inl h1)) b1, .lst (.inl (.inl h2)) b2, by simp [PyData.canLay0, b3], by simp only [PyData.depth]; omega, by simp [PyData.eqv, b5]⟩
theorem eq_T {H : Hp} {n : Nat} {v w' : V} {Q : VK} (h : EqT K H n v w') (hn : n ≤ 60) (k : Q (.bl true) H) : rEqD K v w' H Q := by
  obtain ⟨d, a1, a2, a3, a4, a5⟩ := EqT.dp n _ _ h
  have hs : SeqAt.shaped d = true := by simp [SeqAt.shaped, a3]; omega
  exact ⟨d, d, a1, a2, hs, hs, by rw [a5]; exact k⟩
theorem ne_T {H : Hp} {n : Nat} {v w' : V} {Q : VK} (h : EqT K H n v w') (hn : n ≤ 60) (k : Q (.bl false) H) : rNeD K v w' H Q := by
  obtain ⟨d, a1, a2, a3, a4, a5⟩ := EqT.dp n _ _ h
  have hs : SeqAt.shaped d = true := by simp [SeqAt.shaped, a3]; omega
  exact ⟨d, d, a1, a2, hs, hs, by rw [a5]; exact k⟩
/-- fractions, pairs -/
theorem EqT.q {H : Hp} {v w' : V} {q : Rat} (h : IsQ K H v q) (g : IsQ K H w' q) : EqT K H 1 v w' := by
  obtain ⟨a, rfl, ha⟩ := h
  obtain ⟨b, rfl, hb⟩ := g
  exact .inr ⟨a, b, _, _, rfl, rfl, .inl ⟨ha, hb⟩, by show 2 ≤ 100000; decide, .cons (.inl ⟨_, rfl, rfl⟩) (.cons (.inl ⟨_, rfl, rfl⟩) .nil)⟩
end
end Mx

namespace Mx
open PySem L2
theorem row_mv {K : PySem.W.Frag} {H0 H H' : Hp} {F : List Addr} {r sc : Addr} {ns : List Int} (h0 : RowAt K H0 r sc ns) (h : RowAt K H r sc ns) (s : Stp F H H') (hr : r ∉ F) (s0 : Stp [r] H0 H') : RowAt K H' r sc ns := by
  obtain ⟨_, _, _, _, _, _, hs, hn⟩ := h0
  obtain ⟨pos, mix, p0, m0, m1, hrr, _, _⟩ := h
  exact ⟨pos, mix, p0, m0, m1, s.keep _ _ hrr hr, seq_or hs s0 hn, hn⟩
theorem dpAll_len {K : PySem.W.Frag} {H : Hp} : ∀ {vs : List V} {ds : List PyData}, DpAll K H vs ds → vs.length = ds.length
  | _, _, .nil => rfl
  | _, _, .cons _ r => by rw [List.length_cons, List.length_cons, dpAll_len r]
theorem ne_nilL {K : PySem.W.Frag} {H : Hp} {a b : Addr} {vs : List V} {n : Nat} {Q : VK} (ha : H a = some (.lst vs)) (hb : H b = some (.lst [])) (h : Paired (EqT K H n) vs vs) (hn : n ≤ 60) (k : Q (.bl (!vs.isEmpty)) H) : rNeD K (.ref a) (.ref b) H Q := by
  obtain ⟨ds, b1, _, b3, b4, _⟩ := all_dp (EqT.dp n) h
  have hs : SeqAt.shaped (.list ds) = true := by
    have : (PyData.list ds).depth ≤ 64 := by simp only [PyData.depth]; omega
    simp [SeqAt.shaped, PyData.canLay0, b3, this]
  refine ⟨.list ds, .list [], .lst (.inl (.inl ha)) b1, .lst (.inl (.inl hb)) .nil, hs, rfl, ?_⟩
  have e : PyData.eqv (.list ds) (.list []) = vs.isEmpty := by
    have := dpAll_len b1
    cases ds with
    | nil => 
      have : vs = [] := List.length_eq_zero_iff.mp this
      rw [this]
      rfl
    | cons d r =>
      cases vs with
      | nil => simp at this
      | cons v t => rfl
  rw [e]
  exact k
theorem ints_refl {K : PySem.W.Frag} {H : Hp} {n : Nat} : ∀ (ns : List Int), Paired (EqT K H n) (ns.map V.int) (ns.map V.int)
  | [] => .nil
  | i :: r => .cons (by cases n with | zero => exact .inl ⟨i, rfl, rfl⟩ | succ n => exact .inl (.inl ⟨i, rfl, rfl⟩)) (ints_refl r)
end Mx

namespace Mx
open PySem L2
theorem lc_rel {J : It} {n : Nat} {G : Hp → Prop} {Y : Nat → Hp → V → Hp → Prop} (w : Walk J n G Y) {F : List Addr} {H1 H9 : Hp} {i : Nat} {tt : TT} {te : TE} {σ : L2.St} {Q : VK} (Z : Hp → Prop) (R : Hp → Nat → V → Prop) (p : Nat → Bool) (YX : Nat → V → Prop)
    (z1 : Z H1) (hF : ∀ b ∈ F, H1 b ≠ none) (hz : ∀ D H H', H1 D = none → Z H → Stp [D] H H' → Stp F H1 H' → Z H') (hG : ∀ H, Z H → Stp F H1 H → G H) (hR : ∀ F' H H' j y, R H j y → Stp F' H H' → R H' j y) (hn : n ≤ 100000)
    (hY : ∀ j H x H', j < n → Y j H x H' → H' = H ∧ YX j x)
    (ht : ∀ j x H, j < n → YX j x → Z H → Stp F H1 H → ∀ Q' : Bool → Hp → Prop, (∀ H', Z H' → Stp F H1 H' → Stp F H H' → Q' (p j) H') → tt ((wipe σ [i]).set i (some x)) H Q')
    (he : ∀ j x H, j < n → YX j x → p j = true → Z H → Stp F H1 H → ∀ Q' : VK, (∀ y H', R H' j y → Z H' → Stp F H1 H' → Stp F H H' → Q' y H') → te ((wipe σ [i]).set i (some x)) H Q')
    (k : ∀ D H' ys, H1 D = none → Z H' → Stp F H1 H' → H' D = some (.lst ys) → Paired (R H') ((List.range n).filter p) ys → Q (.ref D) H') :
    tLc (fun _ _ R => R J H1) (gName i) tt te [i] σ H9 Q := by
  intro D hD
  have hDF : D ∉ F := fun z => hF D z hD
  refine lc_it w (fun m H => Z H ∧ Stp F H1 H ∧ ∃ ys, H D = some (.lst ys) ∧ Paired (R H) ((List.range m).filter p) ys) ⟨hz D _ _ hD z1 ((Stp.new hD).sub (by simp)) ((Stp.new hD).sub (by simp)), (Stp.new hD).sub (by simp), [], upd_same, .nil⟩ (fun m H _ h => hG H h.1 h.2.1) (fun m x H H' hm h hy => ?_) (fun H h => ?_)
  · obtain ⟨rfl, hx⟩ := hY m H x H' hm hy
    obtain ⟨z, sm, ys, hD2, hp⟩ := h
    refine ⟨wipe1, ?_⟩
    have ef : (List.range (m + 1)).filter p = (List.range m).filter p ++ if p m = true then [m] else [] := by
      rw [List.range_succ, List.filter_append]
      congr 1
      rw [List.filter_cons, List.filter_nil]
    refine ht m x _ hm hx z sm _ fun H2 z2 s2 s2' => ?_
    have hD3 := s2'.keep _ _ hD2 hDF
    have hp2 : Paired (R H2) ((List.range m).filter p) ys := pr_map (fun _ _ q => hR _ _ _ _ _ q s2') hp
    cases e : p m with
    | false =>
      rw [if_neg (by simp)]
      rw [e] at ef
      exact ⟨z2, s2, ys, hD3, by rw [ef]; simpa using hp2⟩
    | true =>
      rw [if_pos rfl]
      rw [e] at ef
      refine he m x _ hm hx e z2 s2 _ fun y H3 hy3 z3 s3 s3' => ?_
      have hD4 := s3'.keep _ _ hD3 hDF
      have sP := Stp.put (o := .lst (ys ++ [y])) hD4 (fun xs z => nomatch z)
      have sA : Stp F H1 (upd H3 D (.lst (ys ++ [y]))) := (s3.trans sP).subN fun b hb => by
        rcases List.mem_append.mp hb with q | q
        · exact .inl q
        · exact .inr (List.mem_singleton.mp q ▸ hD)
      refine ⟨ys, hD4, ?_, hz D _ _ hD z3 sP sA, sA, ys ++ [y], upd_same, ?_⟩
      · rw [← hp.length]
        exact Nat.lt_of_le_of_lt (Nat.le_trans (List.length_filter_le _ _) (by rw [List.length_range]; exact show m ≤ 100000 by omega)) (by decide)
      · rw [ef]
        exact (pr_map (fun _ _ q => hR _ _ _ _ _ q (s3'.trans sP)) hp2).snoc (hR _ _ _ _ _ hy3 sP)
  · obtain ⟨z, sm, ys, hD2, hp⟩ := h
    exact k D H ys hD z sm hD2 hp
/-- a comprehension that draws whole numbers, so many as a range tells -/
theorem lc_rowI {K : PySem.W.Frag} {r sc : Addr} {ns : List Int} {H1 : Hp} {n : Nat} {ta : TA} {i : Nat} {te : TE} {σ : L2.St} {Q : VK} (lo hi : Int) (hR : RowAt K H1 r sc ns) (hn : n ≤ 100000) (hta : ∀ R : List V → Hp → Prop, R [.int (n : Int)] H1 → ta σ H1 R)
    (he : ∀ x H, RowAt K H r sc ns → ∀ Q' : VK, (∀ v H', lo ≤ v → v ≤ hi → RowAt K H' r sc ns → Stp [r] H H' → Q' (.int v) H') → te ((wipe σ [i]).set i (some x)) H Q')
    (k : ∀ D H' (xs : List Int), H1 D = none → RowAt K H' r sc ns → Stp [r] H1 H' → H' D = some (.lst (xs.map V.int)) → xs.length = n → (∀ v ∈ xs, lo ≤ v ∧ v ≤ hi) → Q (.ref D) H') :
    tLc (iRng1 ta) (gName i) tYes te [i] σ H1 Q := by
  refine hta _ ⟨_, rfl, by omega, by omega, ?_⟩
  refine lc_rel (H9 := H1) (walk_range (lo := 0) (n := n)) (F := [r]) (Z := fun H => RowAt K H r sc ns) (R := fun _ _ y => ∃ v : Int, y = .int v ∧ lo ≤ v ∧ v ≤ hi) (p := fun _ => true) (YX := fun _ _ => True) hR ?_ ?_ (fun _ _ _ => trivial) (fun _ _ _ _ _ h _ => h) hn (fun j H x H' _ h => ⟨h.1, trivial⟩) (fun j x H _ _ z s Q' q => q H z s (Stp.refl.sub (by simp))) (fun j x H _ _ _ z s Q' q => ?_) fun D H' ys hD z s hl hp => ?_
  · intro b hb
    rw [List.mem_singleton.mp hb]
    obtain ⟨_, _, _, _, _, z, _⟩ := hR
    rw [z]
    exact nofun
  · intro D H H' hD z s s0
    exact row_mv hR z s (by simpa using (row_ne hR hD).symm) s0
  · exact he x H z Q' fun v H' v0 v1 hR' s' => q _ H' ⟨v, rfl, v0, v1⟩ hR' ((s.trans s').sub (by simp)) s'
  · have : ∀ {js : List Nat} {ys : List V}, Paired (fun (_ : Nat) y => ∃ v : Int, y = .int v ∧ lo ≤ v ∧ v ≤ hi) js ys → ∃ xs : List Int, ys = xs.map V.int ∧ xs.length = js.length ∧ ∀ v ∈ xs, lo ≤ v ∧ v ≤ hi := by
      intro js ys h
      induction h with
      | nil => exact ⟨[], rfl, rfl, by simp⟩
      | cons h _ ih =>
        obtain ⟨v, rfl, v0, v1⟩ := h
        obtain ⟨xs, rfl, e, q⟩ := ih
        refine ⟨v :: xs, rfl, by simp [e], fun u hu => ?_⟩
        rcases List.mem_cons.mp hu with rfl | hu
        · exact ⟨v0, v1⟩
        · exact q u hu
    obtain ⟨xs, rfl, e, q⟩ := this hp
    refine k D H' xs hD z s hl ?_ q
    rw [e, List.filter_eq_self.mpr (fun _ _ => rfl), List.length_range]
/-- pairs of whole numbers over a range -/
theorem lc_pairs {H1 : Hp} {n : Nat} {ta : TA} {i : Nat} {te : TE} {σ : L2.St} {Q : VK} (f g : Nat → Int) (hn : n ≤ 100000) (hta : ∀ R : List V → Hp → Prop, R [.int (n : Int)] H1 → ta σ H1 R)
    (he : ∀ (j : Nat) H, j < n → ∀ Q' : VK, (∀ t H', H' t = some (.tup [.int (f j), .int (g j)]) → Stp [] H H' → Q' (.ref t) H') → te ((wipe σ [i]).set i (some (.int (0 + (j : Int))))) H Q')
    (k : ∀ D H' (ts : List Addr), H1 D = none → Stp [] H1 H' → H' D = some (.lst (ts.map V.ref)) → Paired (fun (j : Nat) t => H' t = some (.tup [.int (f j), .int (g j)])) (List.range n) ts → Q (.ref D) H') :
    tLc (iRng1 ta) (gName i) tYes te [i] σ H1 Q := by
  refine hta _ ⟨_, rfl, by omega, by omega, ?_⟩
  refine lc_rel (H9 := H1) (walk_range (lo := 0) (n := n)) (F := []) (Z := fun _ => True) (R := fun H j y => ∃ t, y = .ref t ∧ H t = some (.tup [.int (f j), .int (g j)])) (p := fun _ => true) (YX := fun j x => x = .int (0 + (j : Int))) trivial (by simp) (fun _ _ _ _ _ _ _ => trivial) (fun _ _ _ => trivial) (fun F' H H' j y h s => ?_) hn (fun j H x H' _ h => h) (fun j x H _ _ z s Q' q => q H trivial s Stp.refl) (fun j x H hj hx _ z s Q' q => ?_) fun D H' ys hD z s hl hp => ?_
  · obtain ⟨t, rfl, h⟩ := h
    exact ⟨t, rfl, s.tup _ _ h⟩
  · subst hx
    exact he j H hj Q' fun t H' h s' => q _ H' ⟨t, rfl, h⟩ trivial (s.trans s') s'
  · rw [List.filter_eq_self.mpr (fun _ _ => rfl)] at hp
    have : ∀ {js : List Nat} {ys : List V}, Paired (fun (j : Nat) y => ∃ t, y = .ref t ∧ H' t = some (.tup [.int (f j), .int (g j)])) js ys → ∃ ts : List Addr, ys = ts.map V.ref ∧ Paired (fun (j : Nat) t => H' t = some (.tup [.int (f j), .int (g j)])) js ts := by
      intro js ys h
      induction h with
      | nil => exact ⟨[], rfl, .nil⟩
      | cons h _ ih =>
        obtain ⟨t, rfl, h⟩ := h
        obtain ⟨ts, rfl, q⟩ := ih
        exact ⟨t :: ts, rfl, .cons h q⟩
    obtain ⟨ts, rfl, q⟩ := this hp
    exact k D H' ts hD s hl q
end Mx
namespace Mx
open PySem L2
/-- a comprehension over a dict's keys -/
theorem lc_keysR {d : Addr} {o : Obj} {kvs : List (Key × V)} {F : List Addr} {H1 : Hp} {i v : Nat} {tt : TT} {te : TE} {σ : L2.St} {Q : VK} (hv : σ[v]? = some (some (.ref d))) (hd : H1 d = some (.frz o (.dK kvs))) (hdF : d ∉ F) (Z : Hp → Prop) (R : Hp → Nat → V → Prop) (p : Nat → Bool)
    (z1 : Z H1) (hF : ∀ b ∈ F, H1 b ≠ none) (hz : ∀ D H H', H1 D = none → Z H → Stp [D] H H' → Stp F H1 H' → Z H') (hR : ∀ F' H H' j y, R H j y → Stp F' H H' → R H' j y) (hn : kvs.length ≤ 100000)
    (ht : ∀ j k w H, kvs[j]? = some (k, w) → Z H → Stp F H1 H → ∀ Q' : Bool → Hp → Prop, (∀ H', Z H' → Stp F H1 H' → Stp F H H' → Q' (p j) H') → tt ((wipe σ [i]).set i (some (kV k))) H Q')
    (he : ∀ j k w H, kvs[j]? = some (k, w) → p j = true → Z H → Stp F H1 H → ∀ Q' : VK, (∀ y H', R H' j y → Z H' → Stp F H1 H' → Stp F H H' → Q' y H') → te ((wipe σ [i]).set i (some (kV k))) H Q')
    (k : ∀ D H' ys, H1 D = none → Z H' → Stp F H1 H' → H' D = some (.lst ys) → Paired (R H') ((List.range kvs.length).filter p) ys → Q (.ref D) H') :
    tLc (iKeys (tVar v)) (gName i) tt te [i] σ H1 Q := by
  refine ⟨_, hv, d, o, rfl, .inl ⟨kvs, hd, ?_⟩⟩
  refine lc_rel (H9 := H1) (Q := Q) walk_keys (F := F) Z R p (fun j x => ∃ k w, kvs[j]? = some (k, w) ∧ x = kV k) z1 hF hz (fun H _ s => s.keep _ _ hd hdF) hR hn (fun j H x H' _ hy => ?_) (fun j x H _ hx z s Q' qq => ?_) (fun j x H _ hx hp z s Q' qq => ?_) k
  · obtain ⟨e, kk, w, hk, hx⟩ := hy
    exact ⟨e, kk, w, hk, hx⟩
  · obtain ⟨kk, w, hk, rfl⟩ := hx
    exact ht j kk w H hk z s Q' qq
  · obtain ⟨kk, w, hk, rfl⟩ := hx
    exact he j kk w H hk hp z s Q' qq
end Mx

namespace Mx
open PySem L2 TL
/-! ### texts of numbers -/
def numT (i : Int) : List Nat := if i < 0 then 45 :: numL i.natAbs else numL i.natAbs
abbrev numS (i : Int) : Str := Str.ofString (toString i)
theorem tl_numS (i : Int) : tl (numS i) = numT i := by
  cases i with
  | ofNat n =>
    show tl (Str.ofString (toString ((n : Nat) : Int))) = _
    rw [tl_num]
    rfl
  | negSucc n =>
    show tl (Str.ofString ("-" ++ toString (n + 1))) = _
    rw [tl_ofString, String.toList_append, List.map_append]
    have h := tl_num (n + 1)
    rw [tl_ofString] at h
    have e : (toString (((n + 1 : Nat)) : Int)).toList.map Char.toNat = (toString (n + 1)).toList.map Char.toNat := rfl
    rw [e] at h
    rw [h]
    unfold numT
    rw [if_pos (Int.negSucc_lt_zero n)]
    rfl
theorem numT_inj {i j : Int} (h : numT i = numT j) : i = j := by
  unfold numT at h
  have nf : ∀ n : Nat, (45 : Nat) ∉ numL n := fun n => numL_free (.inl (by decide))
  by_cases hi : i < 0 <;> by_cases hj : j < 0
  · rw [if_pos hi, if_pos hj] at h
    have := numL_inj (List.cons.inj h).2
    omega
  · rw [if_pos hi, if_neg hj] at h
    exact absurd (h ▸ List.mem_cons_self) (nf j.natAbs)
  · rw [if_neg hi, if_pos hj] at h
    exact absurd (h ▸ List.mem_cons_self) (nf i.natAbs)
  · rw [if_neg hi, if_neg hj] at h
    have := numL_inj h
    omega
theorem numS_inj {i j : Int} (h : numS i = numS j) : i = j := numT_inj (by rw [← tl_numS, ← tl_numS, h])
theorem numT_free {i : Int} {s : Nat} (h : s < 45 ∨ 57 < s) : s ∉ numT i := by
  have := numL_free (n := i.natAbs) (s := s) (by omega)
  unfold numT
  split
  · simp only [List.mem_cons, not_or]
    exact ⟨by omega, this⟩
  · exact this
theorem numT_len {i : Int} (h0 : -999 ≤ i) (h1 : i ≤ 999) : (numT i).length ≤ 4 := by
  have := numL_len (n := i.natAbs) (k := 3) (by decide) (by omega)
  unfold numT
  split
  · rw [List.length_cons]; omega
  · omega
theorem numT_ne (i : Int) : numT i ≠ [] := by
  unfold numT
  split
  · simp
  · exact numL_ne _
/-! ### a word read as a number -/
def isFig (c : Nat) : Bool := decide (48 ≤ c) && decide (c ≤ 57)
def figs : List Nat → List Nat
  | 45 :: r => r
  | l => l
def neg? : List Nat → Bool
  | 45 :: _ => true
  | _ => false
def okF (L : List Nat) : Bool := decide (1 ≤ (figs L).length ∧ (figs L).length ≤ 3) && (figs L).all isFig
def valF (L : List Nat) : Int := if neg? L = true then -((NumText.digitsVal (figs L) : Nat) : Int) else ((NumText.digitsVal (figs L) : Nat) : Int)
def numO (w : Str) : Option Int := if okF (tl w) = true then (if numT (valF (tl w)) = tl w then some (valF (tl w)) else none) else none
theorem figs_neg {L : List Nat} (h : neg? L = true) : L = 45 :: figs L := by
  unfold neg? at h
  split at h
  · rfl
  · cases h
theorem figs_pos {L : List Nat} (h : neg? L = false) : figs L = L := by
  unfold neg? at h
  split at h
  · cases h
  · rename_i hne
    unfold figs
    split
    · rename_i r
      exact absurd rfl (hne r)
    · rfl
theorem all_fig {l : List Nat} (h : l.all isFig = true) : NumText.AllDigits l := by
  intro c hc
  have := List.all_eq_true.mp h c hc
  unfold isFig at this
  simp only [Bool.and_eq_true, decide_eq_true_eq] at this
  exact this
theorem fig_all {l : List Nat} (h : NumText.AllDigits l) : l.all isFig = true := by
  refine List.all_eq_true.mpr fun c hc => ?_
  have := h c hc
  unfold isFig
  simp only [Bool.and_eq_true, decide_eq_true_eq]
  exact this
theorem int_okF {w : Str} (h : okF (tl w) = true) : PySem.intText? w = some (valF (tl w)) := by
  unfold okF at h
  simp only [Bool.and_eq_true, decide_eq_true_eq] at h
  obtain ⟨⟨h1, h2⟩, h3⟩ := h
  have hd := all_fig h3
  have hne : figs (tl w) ≠ [] := fun z => by rw [z] at h1; simp at h1
  cases hn : neg? (tl w) with
  | true =>
    have e := figs_neg hn
    have hl : w.length ≤ 4300 := by rw [len_tl, e, List.length_cons]; omega
    rw [intText_neg e hd hne hl]
    unfold valF
    rw [if_pos hn]
  | false =>
    have e := figs_pos hn
    rw [e] at hd hne h2
    have hl : w.length ≤ 4300 := by rw [len_tl]; omega
    rw [intText_digits hd hne hl]
    unfold valF
    rw [if_neg (by simp [hn]), e]
theorem numT_neg {i : Int} (h : i < 0) : numT i = 45 :: numL i.natAbs := if_pos h
theorem numT_pos {i : Int} (h : ¬ i < 0) : numT i = numL i.natAbs := if_neg h
theorem neg_numL (n : Nat) : neg? (numL n) = false := by
  cases h : neg? (numL n) with
  | false => rfl
  | true =>
    have := figs_neg h
    exact absurd (this ▸ List.mem_cons_self) (numL_free (n := n) (s := 45) (.inl (by decide)))
theorem okF_num {i : Int} (h0 : -999 ≤ i) (h1 : i ≤ 999) : okF (numT i) = true := by
  have hl := numL_len (n := i.natAbs) (k := 3) (by decide) (by omega)
  have hn : 1 ≤ (numL i.natAbs).length := by
    have := numL_ne i.natAbs
    cases e : numL i.natAbs with
    | nil => exact absurd e this
    | cons => simp
  have ha := fig_all (numL_digits i.natAbs)
  have hf : figs (numT i) = numL i.natAbs := by
    by_cases h : i < 0
    · rw [numT_neg h]; rfl
    · rw [numT_pos h]; exact figs_pos (neg_numL _)
  unfold okF
  rw [hf, ha, decide_eq_true ⟨hn, hl⟩]
  rfl
theorem valF_num {i : Int} : valF (numT i) = i := by
  unfold valF
  by_cases h : i < 0
  · have e := numT_neg h
    rw [e, if_pos (show neg? (45 :: numL i.natAbs) = true from rfl)]
    show -(((NumText.digitsVal (numL i.natAbs) : Nat)) : Int) = i
    rw [numL_val]
    omega
  · rw [numT_pos h, if_neg (by rw [neg_numL]; simp), figs_pos (neg_numL _), numL_val]
    omega
theorem numO_num {i : Int} (h0 : -999 ≤ i) (h1 : i ≤ 999) : numO (numS i) = some i := by
  unfold numO
  rw [tl_numS, if_pos (okF_num h0 h1), valF_num, if_pos rfl]
theorem numO_some {w : Str} {i : Int} (h : numO w = some i) : w = numS i ∧ -999 ≤ i ∧ i ≤ 999 := by
  unfold numO at h
  split at h
  · rename_i hk
    split at h
    · rename_i he
      cases h
      refine ⟨ext_tl (by rw [tl_numS, he]), ?_⟩
      unfold okF at hk
      simp only [Bool.and_eq_true, decide_eq_true_eq] at hk
      obtain ⟨⟨h1, h2⟩, h3⟩ := hk
      have hb : ∀ l : List Nat, l.all isFig = true → l.length ≤ 3 → NumText.digitsVal l ≤ 999 := by
        intro l ha hl
        have hx : ∀ c ∈ l, c ≤ 57 := fun c hc => (all_fig ha c hc).2
        match l, hl with
        | [], _ => decide
        | [a], _ => have := hx a (by simp); simp only [NumText.digitsVal, List.foldl_cons, List.foldl_nil]; omega
        | [a, b], _ => have := hx a (by simp); have := hx b (by simp); simp only [NumText.digitsVal, List.foldl_cons, List.foldl_nil]; omega
        | [a, b, c], _ => have := hx a (by simp); have := hx b (by simp); have := hx c (by simp); simp only [NumText.digitsVal, List.foldl_cons, List.foldl_nil]; omega
        | a :: b :: c :: d :: r, hl => simp only [List.length_cons] at hl; omega
      have := hb _ h3 h2
      unfold valF
      split <;> omega
    · cases h
  · cases h
/-! ### the sign ahead, left out -/
theorem tl_noPre (w : Str) : tl (Txt.removeprefix w (Str.ofString "-")) = figs (tl w) := by
  have hy : tl (Str.ofString "-") = [45] := by rw [tl_ofString]; rfl
  have hyl : (Str.ofString "-").length = 1 := by rw [len_tl, hy]; rfl
  unfold Txt.removeprefix
  have hs : Builtin.Str.subAt w (Str.ofString "-") 0 = ((tl w).take 1 == [45]) := by
    rw [StrLaws.subAt_eq, hyl]
    show (((tl w).drop 0).take 1 == tl (Str.ofString "-")) = _
    rw [hy, List.drop_zero]
  rw [hs, hyl]
  cases hn : neg? (tl w) with
  | true =>
    have e := figs_neg hn
    have hb : ((tl w).take 1 == [45]) = true := by rw [e]; rfl
    have hl : w.length = (figs (tl w)).length + 1 := by
      rw [len_tl]
      conv => lhs; rw [e]
      rw [List.length_cons]
    rw [if_pos hb]
    unfold Txt.affix
    dsimp only
    rw [if_neg (by simp; omega)]
    rw [tl_strSub_end]
    conv => lhs; rw [e]
    rfl
  | false =>
    have e := figs_pos hn
    have hb : ¬ ((tl w).take 1 == [45]) = true := by
      intro z
      cases hw : tl w with
      | nil => rw [hw] at z; cases z
      | cons c r =>
        rw [hw] at z hn
        have : c = 45 := by simpa using z
        subst this
        cases hn
    rw [if_neg hb, e]
    rfl
theorem fig_in (c : Nat) : decide (c ∈ (Str.ofString "0123456789").cps.toList) = isFig c := by
  have h : (Str.ofString "0123456789").cps.toList = [48, 49, 50, 51, 52, 53, 54, 55, 56, 57] := by
    show tl (Str.ofString "0123456789") = _
    rw [tl_ofString]
    rfl
  rw [h]
  unfold isFig
  rw [Bool.eq_iff_iff]
  simp only [List.mem_cons, List.not_mem_nil, or_false, decide_eq_true_eq, Bool.and_eq_true]
  omega
end Mx

namespace Mx
open PySem L2 TL
/-! ### deeds as data, and their rows -/
/-- what stands in a deed behind its word: a number or none, or a tuple of such -/
abbrev RV := Sum (Option Int) (List (Option Int))
def oV : Option Int → V
  | none => .non
  | some i => .int i
structure DD where
  w : Str
  rs : List RV
def RVat (K : PySem.W.Frag) (H : Hp) : RV → V → Prop
  | .inl o, v => v = oV o
  | .inr xs, v => ∃ t, v = .ref t ∧ TupAt K H t (xs.map oV)
theorem RVat.st {K : PySem.W.Frag} {F : List Addr} {H H' : Hp} {r : RV} {v : V} (h : RVat K H r v) (s : Stp F H H') : RVat K H' r v := by
  cases r with
  | inl o => exact h
  | inr xs =>
    obtain ⟨t, e, ht⟩ := h
    exact ⟨t, e, ht.st s⟩
def DD.at (K : PySem.W.Frag) (H : Hp) (a : Addr) (d : DD) : Prop := ∃ vs, TupAt K H a (.str d.w :: vs) ∧ Paired (RVat K H) d.rs vs
theorem pr_mapR {α β : Type} {R S : α → β → Prop} (f : ∀ a b, R a b → S a b) : ∀ {xs : List α} {ys : List β}, Paired R xs ys → Paired S xs ys
  | _, _, .nil => .nil
  | _, _, .cons h r => .cons (f _ _ h) (pr_mapR f r)
theorem DD.at.st {K : PySem.W.Frag} {F : List Addr} {H H' : Hp} {a : Addr} {d : DD} (h : d.at K H a) (s : Stp F H H') : d.at K H' a := by
  obtain ⟨vs, h1, h2⟩ := h
  exact ⟨vs, h1.st s, pr_mapR (fun _ _ q => q.st s) h2⟩
def partsT : List (Str × Nat) := [("add", 5), ("parcel", 3), ("end", 2), ("lead", 3), ("hush", 1), ("wake", 1), ("beat", 0)]
def okN (lo hi : Int) : Option Int → Bool
  | some i => decide (lo ≤ i ∧ i ≤ hi)
  | none => false
def okP : RV → Bool
  | .inl o => okN 0 999 o
  | .inr _ => false
def okT : RV → Bool
  | .inr xs => decide (1 ≤ xs.length ∧ xs.length ≤ 32) && xs.all (okN (-999) 999)
  | .inl _ => false
def okD (d : DD) : Bool := decide ((d.w, d.rs.length) ∈ partsT) && (if d.w = "parcel" then (d.rs.take 2).all okP && okT (d.rs.getD 2 (.inl none)) else d.rs.all okP)
/-! ### their texts -/
def rvTxt : RV → Str
  | .inl o => numS (o.getD 0)
  | .inr xs => Txt.join "," (xs.map fun o => numS (o.getD 0))
def rowTxt (d : DD) : Str := Txt.join " " (d.w :: d.rs.map rvTxt)
def rdParts (W : List Str) : List RV :=
  if W.headD Str.empty = "parcel" ∧ (W.drop 1).length = 3 then ((W.drop 1).map fun w => (Sum.inl (numO w) : RV)).set 2 (.inr ((Txt.split (W.getD 3 Str.empty) ",").map numO)) else (W.drop 1).map fun w => .inl (numO w)
def rdRow (z : Str) : DD := ⟨(Txt.split z " ").headD Str.empty, rdParts (Txt.split z " ")⟩
/-! joined texts -/
theorem tl_sp : tl (Str.ofString " ") = [32] := by rw [tl_ofString]; rfl
theorem tl_com : tl (Str.ofString ",") = [44] := by rw [tl_ofString]; rfl
theorem tl_nl : tl (Str.ofString "\n") = [10] := by rw [tl_ofString]; rfl
theorem mem_joinL {S : List Nat} {c : Nat} (hS : c ∉ S) : ∀ {ps : List (List Nat)}, (∀ p ∈ ps, c ∉ p) → c ∉ joinL S ps
  | [], _ => by simp [joinL]
  | [p], h => h p (by simp)
  | p :: q :: r, h => by
    show c ∉ p ++ (S ++ joinL S (q :: r))
    simp only [List.mem_append, not_or]
    exact ⟨h p (by simp), hS, mem_joinL hS fun z hz => h z (List.mem_cons_of_mem _ hz)⟩
theorem len_joinL {S : List Nat} {k : Nat} (hS : S.length ≤ 1) : ∀ {ps : List (List Nat)}, (∀ p ∈ ps, p.length ≤ k) → (joinL S ps).length ≤ ps.length * (k + 1)
  | [], _ => by simp [joinL]
  | [p], h => by
    have := h p (by simp)
    show p.length ≤ 1 * (k + 1)
    omega
  | p :: q :: r, h => by
    have h1 := h p (by simp)
    have h2 := len_joinL (S := S) (k := k) hS (ps := q :: r) fun z hz => h z (List.mem_cons_of_mem _ hz)
    show (p ++ (S ++ joinL S (q :: r))).length ≤ (r.length + 1 + 1) * (k + 1)
    rw [List.length_append, List.length_append]
    have e : (r.length + 1 + 1) * (k + 1) = (q :: r).length * (k + 1) + (k + 1) := by rw [List.length_cons, Nat.succ_mul]
    rw [e]
    omega
theorem free_join {y : Str} {c : Nat} (hy : c ∉ tl y) {ps : List Str} (h : ∀ p ∈ ps, c ∉ tl p) : c ∉ tl (Txt.join y ps) := by
  rw [join_eq, tl_join]
  refine mem_joinL hy fun p hp => ?_
  obtain ⟨z, hz, rfl⟩ := List.mem_map.mp hp
  exact h z hz
theorem len_join {y : Str} {k : Nat} (hy : (tl y).length ≤ 1) {ps : List Str} (h : ∀ p ∈ ps, p.length ≤ k) : (Txt.join y ps).length ≤ ps.length * (k + 1) := by
  rw [join_eq, len_tl, tl_join]
  refine Nat.le_trans (len_joinL hy (k := k) fun p hp => ?_) (by rw [List.length_map]; exact Nat.le_refl _)
  obtain ⟨z, hz, rfl⟩ := List.mem_map.mp hp
  rw [← len_tl]
  exact h z hz
theorem sum_len {k : Nat} : ∀ {ps : List Str}, (∀ p ∈ ps, p.length ≤ k) → (ps.map (·.length)).sum ≤ ps.length * k
  | [], _ => by simp
  | p :: r, h => by
    have h1 := h p (by simp)
    have h2 := sum_len (ps := r) fun z hz => h z (List.mem_cons_of_mem _ hz)
    simp only [List.map_cons, List.sum_cons, List.length_cons, Nat.succ_mul]
    omega
/-- what a deed that can be is made of -/
structure Good (d : DD) : Prop where
  mem : (d.w, d.rs.length) ∈ partsT
  c : (d.w ≠ "parcel" ∧ ∃ ns : List Int, d.rs = ns.map (fun i => (Sum.inl (some i) : RV)) ∧ ∀ i ∈ ns, 0 ≤ i ∧ i ≤ 999) ∨
    (d.w = "parcel" ∧ ∃ (n pl : Int) (xs : List Int), d.rs = [.inl (some n), .inl (some pl), .inr (xs.map some)] ∧ (0 ≤ n ∧ n ≤ 999) ∧ (0 ≤ pl ∧ pl ≤ 999) ∧ (1 ≤ xs.length ∧ xs.length ≤ 32) ∧ ∀ i ∈ xs, -999 ≤ i ∧ i ≤ 999)
theorem okN_iff {lo hi : Int} {o : Option Int} (h : okN lo hi o = true) : ∃ i, o = some i ∧ lo ≤ i ∧ i ≤ hi := by
  cases o with
  | none => cases h
  | some i => exact ⟨i, rfl, by simpa [okN] using h⟩
theorem all_okN {lo hi : Int} : ∀ {xs : List (Option Int)}, xs.all (okN lo hi) = true → ∃ ns : List Int, xs = ns.map some ∧ ∀ i ∈ ns, lo ≤ i ∧ i ≤ hi
  | [], _ => ⟨[], rfl, by simp⟩
  | o :: r, h => by
    simp only [List.all_cons, Bool.and_eq_true] at h
    obtain ⟨i, rfl, hi⟩ := okN_iff h.1
    obtain ⟨ns, rfl, hn⟩ := all_okN h.2
    exact ⟨i :: ns, rfl, fun j hj => (List.mem_cons.mp hj).elim (fun e => e ▸ hi) (hn j)⟩
theorem all_okP : ∀ {xs : List RV}, xs.all okP = true → ∃ ns : List Int, xs = ns.map (fun i => (Sum.inl (some i) : RV)) ∧ ∀ i ∈ ns, 0 ≤ i ∧ i ≤ 999
  | [], _ => ⟨[], rfl, by simp⟩
  | o :: r, h => by
    simp only [List.all_cons, Bool.and_eq_true] at h
    cases o with
    | inr => exact absurd h.1 (by simp [okP])
    | inl o =>
      obtain ⟨i, rfl, hi⟩ := okN_iff h.1
      obtain ⟨ns, rfl, hn⟩ := all_okP h.2
      exact ⟨i :: ns, rfl, fun j hj => (List.mem_cons.mp hj).elim (fun e => e ▸ hi) (hn j)⟩
theorem Good.of {d : DD} (h : okD d = true) : Good d := by
  unfold okD at h
  simp only [Bool.and_eq_true, decide_eq_true_eq] at h
  obtain ⟨hm, h⟩ := h
  refine ⟨hm, ?_⟩
  by_cases hw : d.w = "parcel"
  · rw [if_pos hw] at h
    have hl : d.rs.length = 3 := by
      have hm' := hm
      rw [hw] at hm'
      unfold partsT at hm'
      simp only [List.mem_cons, Prod.mk.injEq, List.not_mem_nil, or_false, ofString_inj, String.reduceEq, false_and, true_and, false_or] at hm'
      exact hm'
    refine .inr ⟨hw, ?_⟩
    match hr : d.rs, hl with
    | [a, b, c], _ =>
      rw [hr] at h
      simp only [Bool.and_eq_true] at h
      obtain ⟨h1, h2⟩ := h
      obtain ⟨ns, e, hn⟩ := all_okP h1
      match ns, e with
      | [n, pl], e =>
        cases e
        cases c with
        | inl o => cases h2
        | inr xs =>
          have h3 : (decide (1 ≤ xs.length ∧ xs.length ≤ 32) && xs.all (okN (-999) 999)) = true := h2
          simp only [Bool.and_eq_true, decide_eq_true_eq] at h3
          obtain ⟨ms, rfl, hm2⟩ := all_okN h3.2
          rw [List.length_map] at h3
          exact ⟨n, pl, ms, rfl, hn n (by simp), hn pl (by simp), h3.1, hm2⟩
  · rw [if_neg hw] at h
    exact .inl ⟨hw, all_okP h⟩
theorem w_free {d : DD} (h : (d.w, d.rs.length) ∈ partsT) : ∀ c ∈ tl d.w, 97 ≤ c := by
  obtain ⟨w, rs⟩ := d
  have hw : w ∈ partsT.map Prod.fst := List.mem_map.mpr ⟨_, h, rfl⟩
  clear h
  unfold partsT at hw
  simp only [List.map_cons, List.map_nil, List.mem_cons, List.not_mem_nil, or_false] at hw
  rcases hw with rfl | rfl | rfl | rfl | rfl | rfl | rfl <;> (show ∀ c ∈ tl (Str.ofString _), _; rw [tl_ofString]; decide)
theorem w_ne {d : DD} (h : (d.w, d.rs.length) ∈ partsT) : tl d.w ≠ [] ∧ d.w.length ≤ 6 ∧ d.rs.length ≤ 5 := by
  obtain ⟨w, rs⟩ := d
  have hw : w ∈ partsT.map Prod.fst := List.mem_map.mpr ⟨_, h, rfl⟩
  have hr : rs.length ∈ partsT.map Prod.snd := List.mem_map.mpr ⟨_, h, rfl⟩
  have h5 : rs.length ≤ 5 := by
    simp only [partsT, List.map_cons, List.map_nil, List.mem_cons, List.not_mem_nil, or_false] at hr
    omega
  clear h hr
  unfold partsT at hw
  simp only [List.map_cons, List.map_nil, List.mem_cons, List.not_mem_nil, or_false] at hw
  refine ⟨?_, ?_, h5⟩
  · rcases hw with rfl | rfl | rfl | rfl | rfl | rfl | rfl <;> (show tl (Str.ofString _) ≠ _; rw [tl_ofString]; decide)
  · rw [len_tl]
    rcases hw with rfl | rfl | rfl | rfl | rfl | rfl | rfl <;> (show (tl (Str.ofString _)).length ≤ 6; rw [tl_ofString]; decide)
/-- no blank and no line end in a part's text; few signs -/
theorem part_free {d : DD} (g : Good d) {r : RV} (hr : r ∈ d.rs) {c : Nat} (hc : c = 10 ∨ c = 32) : c ∉ tl (rvTxt r) ∧ (rvTxt r).length ≤ 160 := by
  have num : ∀ i : Int, -999 ≤ i → i ≤ 999 → c ∉ tl (numS i) ∧ (numS i).length ≤ 4 := fun i h0 h1 => ⟨by rw [tl_numS]; exact numT_free (by omega), by rw [len_tl, tl_numS]; exact numT_len h0 h1⟩
  rcases g.c with ⟨_, ns, e, hn⟩ | ⟨_, n, pl, xs, e, h1, h2, h3, h4⟩
  · rw [e] at hr
    obtain ⟨i, hi, rfl⟩ := List.mem_map.mp hr
    have := hn i hi
    have q := num i (by omega) (by omega)
    exact ⟨q.1, Nat.le_trans q.2 (by decide)⟩
  · rw [e] at hr
    simp only [List.mem_cons, List.not_mem_nil, or_false] at hr
    rcases hr with rfl | rfl | rfl
    · have q := num n (by omega) (by omega)
      exact ⟨q.1, Nat.le_trans q.2 (by decide)⟩
    · have q := num pl (by omega) (by omega)
      exact ⟨q.1, Nat.le_trans q.2 (by decide)⟩
    · have all : ∀ p ∈ (xs.map some).map (fun o => numS (o.getD 0)), c ∉ tl p ∧ p.length ≤ 4 := by
        intro p hp
        rw [List.map_map] at hp
        obtain ⟨i, hi, rfl⟩ := List.mem_map.mp hp
        exact num i (h4 i hi).1 (h4 i hi).2
      refine ⟨free_join (by rw [tl_com]; simp; omega) fun p hp => (all p hp).1, ?_⟩
      refine Nat.le_trans (len_join (k := 4) (by rw [tl_com]; decide) fun p hp => (all p hp).2) ?_
      rw [List.length_map, List.length_map]
      omega
theorem row_free {d : DD} (g : Good d) : (∀ p ∈ d.w :: d.rs.map rvTxt, 32 ∉ tl p ∧ p.length ≤ 160) ∧ 10 ∉ tl (rowTxt d) ∧ (rowTxt d).length ≤ 966 ∧ tl (rowTxt d) ≠ [] := by
  have hw := w_free g.mem
  have hn := w_ne g.mem
  have a1 : ∀ p ∈ d.w :: d.rs.map rvTxt, 32 ∉ tl p ∧ 10 ∉ tl p ∧ p.length ≤ 160 := by
    intro p hp
    rcases List.mem_cons.mp hp with rfl | hp
    · exact ⟨fun z => absurd (hw _ z) (by decide), fun z => absurd (hw _ z) (by decide), by omega⟩
    · obtain ⟨r, hr, rfl⟩ := List.mem_map.mp hp
      exact ⟨(part_free g hr (.inr rfl)).1, part_free g hr (.inl rfl)⟩
  refine ⟨fun p hp => ⟨(a1 p hp).1, (a1 p hp).2.2⟩, free_join (by rw [tl_sp]; decide) fun p hp => (a1 p hp).2.1, ?_, ?_⟩
  · refine Nat.le_trans (len_join (k := 160) (by rw [tl_sp]; decide) fun p hp => (a1 p hp).2.2) ?_
    rw [List.length_cons, List.length_map]
    have := hn.2.2
    show (d.rs.length + 1) * 161 ≤ 966
    omega
  · unfold rowTxt
    rw [join_eq, tl_join]
    cases hd : d.rs.map rvTxt with
    | nil => exact hn.1
    | cons q r => exact fun z => hn.1 (List.append_eq_nil_iff.mp z).1
theorem split_row {d : DD} (g : Good d) : Txt.split (rowTxt d) " " = d.w :: d.rs.map rvTxt := split_join (s := 32) (S := []) tl_sp (by decide +kernel) (by simp) fun p hp => ((row_free g).1 p hp).1
theorem split_nums {xs : List Int} (h : 1 ≤ xs.length) : Txt.split (Txt.join "," ((xs.map some).map fun o => numS (o.getD 0))) "," = xs.map numS := by
  rw [List.map_map]
  refine split_join (s := 44) (S := []) tl_com (by decide +kernel) (fun z => ?_) fun p hp => ?_
  · rw [List.map_eq_nil_iff] at z
    subst z
    simp at h
  · obtain ⟨i, _, rfl⟩ := List.mem_map.mp hp
    show 44 ∉ tl (numS i)
    rw [tl_numS]
    exact numT_free (.inl (by decide))
theorem rd_row {d : DD} (g : Good d) : rdRow (rowTxt d) = d := by
  unfold rdRow
  rw [split_row g]
  obtain ⟨w, rs⟩ := d
  show (⟨w, rdParts (w :: rs.map rvTxt)⟩ : DD) = _
  congr 1
  unfold rdParts
  show (if w = "parcel" ∧ (rs.map rvTxt).length = 3 then ((rs.map rvTxt).map fun w => (Sum.inl (numO w) : RV)).set 2 (.inr ((Txt.split ((w :: rs.map rvTxt).getD 3 Str.empty) ",").map numO)) else (rs.map rvTxt).map fun w => .inl (numO w)) = rs
  rcases g.c with ⟨hw, ns, e, hn⟩ | ⟨hw, n, pl, xs, e, h1, h2, h3, h4⟩
  · have hw' : ¬ w = "parcel" := hw
    have e' : rs = ns.map (fun i => (Sum.inl (some i) : RV)) := e
    subst e'
    rw [if_neg (fun z => hw' z.1), List.map_map, List.map_map]
    refine List.map_congr_left fun i hi => ?_
    have := hn i hi
    show (Sum.inl (numO (numS i)) : RV) = _
    rw [numO_num (by omega) (by omega)]
  · have hw' : w = "parcel" := hw
    have e' : rs = [.inl (some n), .inl (some pl), .inr (xs.map some)] := e
    subst e'
    rw [if_pos ⟨hw', rfl⟩]
    show [(Sum.inl (numO (numS n)) : RV), .inl (numO (numS pl)), .inr ((Txt.split (Txt.join "," ((xs.map some).map fun o => numS (o.getD 0))) ",").map numO)] = _
    rw [numO_num (by omega) (by omega), numO_num (by omega) (by omega), split_nums h3.1, List.map_map]
    rw [show xs.map (numO ∘ numS) = xs.map some from List.map_congr_left fun i hi => numO_num (h4 i hi).1 (h4 i hi).2]
/-! the text of many -/
def allTxt (ds : List DD) : Str := Txt.join "\n" (ds.map rowTxt)
def rowsOf (z : Str) : List Str := if z = Str.empty then [] else Txt.split z "\n"
theorem rows_all {ds : List DD} (h : ∀ d ∈ ds, Good d) : rowsOf (allTxt ds) = ds.map rowTxt := by
  unfold rowsOf
  cases ds with
  | nil => rfl
  | cons d r =>
    have hne : ¬ allTxt (d :: r) = Str.empty := by
      intro z
      have z2 : tl (allTxt (d :: r)) = [] := by rw [z]; rfl
      unfold allTxt at z2
      rw [join_eq, tl_join] at z2
      have hd := (row_free (h d (by simp))).2.2.2
      cases r with
      | nil => exact hd z2
      | cons => exact hd (List.append_eq_nil_iff.mp z2).1
    rw [if_neg hne]
    refine split_join (s := 10) (S := []) tl_nl (by decide +kernel) (by simp) fun p hp => ?_
    obtain ⟨q, hq, rfl⟩ := List.mem_map.mp hp
    exact (row_free (h q hq)).2.1
theorem len_all {ds : List DD} (h : ∀ d ∈ ds, Good d) (hl : ds.length ≤ 300) : (allTxt ds).length ≤ 290100 := by
  refine Nat.le_trans (len_join (k := 966) (by rw [tl_nl]; decide) fun p hp => ?_) (by rw [List.length_map]; omega)
  obtain ⟨q, hq, rfl⟩ := List.mem_map.mp hp
  exact (row_free (h q hq)).2.2.1
theorem fold_join (w : Str) : ∀ ps : List Str, ps.foldl (fun acc p => acc ++ Str.ofString " " ++ p) w = Txt.join " " (w :: ps) := by
  intro ps
  rw [join_eq]
  refine ext_tl ?_
  rw [tl_join, tl_sp]
  induction ps generalizing w with
  | nil => rfl
  | cons p r ih =>
    rw [List.foldl_cons, ih]
    cases r with
    | nil =>
      show tl (w ++ Str.ofString " " ++ p) = tl w ++ ([32] ++ tl p)
      rw [tl_append, tl_append, tl_sp, List.append_assoc]
    | cons q t =>
      show tl (w ++ Str.ofString " " ++ p) ++ ([32] ++ joinL [32] ((q :: t).map tl)) = tl w ++ ([32] ++ (tl p ++ ([32] ++ joinL [32] ((q :: t).map tl))))
      simp only [tl_append, tl_sp, List.append_assoc]
end Mx

namespace L2
open PySem PySem.Spec PyProof.Rows
/-! ### d.get(x), d a dict of the module, x there or not -/
def KMs (K : PySem.W.Frag) (w : World) (a : Addr) (z : Str) : Prop := ∃ es n, K.lookup a = some ⟨.type "dict", none, .dict es n, #[]⟩ ∧ PySem.W.KeysLit w.params es.toList ∧ PySem.W.nsIn K a z = some none
def tKGet2 (K : PySem.W.Frag) (w : World) (td ty : TE) : TE := fun σ H Q => td σ H fun x H1 => ∃ a, x = .ref a ∧ (∃ es n, K.lookup a = some ⟨.type "dict", none, .dict es n, #[]⟩ ∧ PySem.W.KeysLit w.params es.toList) ∧ (a == sysModules) = false ∧
  ty σ H1 fun y H2 => ∃ z v, y = .str z ∧ (KDct K w a z v ∨ KMs K w a z ∧ v = .non) ∧ Q v H2
section
variable {X : Cx} {o e : Expr} {apos cpos : Pos} {td ty : TE}
theorem pe_kget2 (ho : PE X o td) (he : PE X e ty) (m : M1 X o "get" apos e cpos) : PE X (.Call (.Attribute o "get" apos) [e] [] cpos) (tKGet2 X.K X.w td ty) := by
  refine ⟨fun pins s σ H Q I h => ?_⟩
  refine wpAny_Call_method m.base m.few m.line PySem.F.plainAttrs_dict PySem.F.slot_dict_get PySem.F.type_dict_get (thn (ho.run pins s σ H _ I h) fun u s1 ⟨x, H1, I1, rx, a, ex, ⟨es, n, hl, hk⟩, hs, q1⟩ => ?_)
  subst ex
  obtain rfl : u = Value.ref a := rx
  have hm1 := PySem.W.mapOf_K (prog := X.prog) (w := X.w) I1.kIn hl hk
  refine ⟨hm1.typeIs, fun b q => ?_, ?_⟩
  · cases q
    exact ⟨_, I1.kIn _ _ hl, rfl⟩
  rw [m.trees]
  refine Calls.callWith_builtin rfl (Calls.evalArgs_plain (Calls.spliced_cons (thn (he.run pins s1 σ H1 _ I1 q1) fun iv s2 ⟨y, H2, I2, ry, z, v, ey, q0, q2⟩ => Calls.spliced_nil ?_)))
  subst ey
  obtain ⟨t, rfl⟩ := ry
  rcases q0 with ⟨es', n', u0, hl', hk', e', ru⟩ | ⟨⟨es', n', hl', hk', e'⟩, rfl⟩
  · have hm := PySem.W.mapOf_K (prog := X.prog) (w := X.w) I2.kIn hl' hk'
    refine call_meetsIn PySem.F.slot_dict_get hm.typeIs PySem.F.entry_dict_get (PySem.F.args_dict_get_2 _ _) (meets_dict_get (strKind X.prog X.w) a (strKind_is X.prog X.w z t) hs) ⟨_, hm, ?_⟩
    rw [PySem.W.find_K hl' e']
    exact ⟨v, H2, I2.tok _, ru, q2⟩
  · have hm := PySem.W.mapOf_K (prog := X.prog) (w := X.w) I2.kIn hl' hk'
    refine call_meetsIn PySem.F.slot_dict_get hm.typeIs PySem.F.entry_dict_get (PySem.F.args_dict_get_2 _ _) (meets_dict_get (strKind X.prog X.w) a (strKind_is X.prog X.w z t) hs) ⟨_, hm, ?_⟩
    rw [PySem.W.find_K hl' e']
    exact ⟨.non, H2, I2.tok _, rfl, q2⟩
end
end L2
namespace Mx
open PySem L2 TL
/-! ### deeds, checked whatever they are -/
/-- what isn't a number in these bounds is none -/
def wB (lo hi : Int) : V → Bool
  | .int n => decide (lo ≤ n ∧ n ≤ hi)
  | _ => false
theorem wB_P {K : PySem.W.Frag} {H : Hp} {r : RV} {v : V} (h : RVat K H r v) : wB 0 999 v = okP r := by
  cases r with
  | inl o =>
    have h' : v = oV o := h
    subst h'
    cases o <;> rfl
  | inr xs =>
    obtain ⟨t, rfl, _⟩ := h
    rfl
theorem all_wB {K : PySem.W.Frag} {H : Hp} : ∀ {rs : List RV} {vs : List V}, Paired (RVat K H) rs vs → vs.all (wB 0 999) = rs.all okP
  | _, _, .nil => rfl
  | _, _, .cons h r => by rw [List.all_cons, List.all_cons, wB_P h, all_wB r]
theorem pr_take {α β : Type} {R : α → β → Prop} : ∀ {xs : List α} {ys : List β} (n : Nat), Paired R xs ys → Paired R (xs.take n) (ys.take n)
  | _, _, 0, _ => by rw [List.take_zero, List.take_zero]; exact .nil
  | _, _, n + 1, .nil => .nil
  | _, _, n + 1, .cons h r => .cons h (pr_take n r)
structure PartsOk2 (K : PySem.W.Frag) (w : World) (mg : Str → Option Value) (aP : Addr) : Prop where
  mg : mg "PARTS" = some (.ref aP)
  at_ : ∃ es n, K.lookup aP = some ⟨.type "dict", none, .dict es n, #[]⟩ ∧ PySem.W.KeysLit w.params es.toList
  sys : (aP == sysModules) = false
  all : ∀ p ∈ partsT, KDct K w aP p.1 (.int p.2)
  no : ∀ z, z ∉ partsT.map Prod.fst → KMs K w aP z
def pV (z : Str) : V := if z ∈ partsT.map Prod.fst then .int (((partsT.lookup z).getD 0 : Nat)) else .non
theorem PartsOk2.get {K : PySem.W.Frag} {w : World} {mg : Str → Option Value} {aP : Addr} (h : PartsOk2 K w mg aP) (z : Str) : KDct K w aP z (pV z) ∨ KMs K w aP z ∧ pV z = .non := by
  by_cases hz : z ∈ partsT.map Prod.fst
  · left
    unfold pV
    rw [if_pos hz]
    obtain ⟨p, hp, rfl⟩ := List.mem_map.mp hz
    have := h.all p hp
    have e : (partsT.lookup p.1).getD 0 = p.2 := by
      clear this hz
      unfold partsT at hp
      simp only [List.mem_cons, List.not_mem_nil, or_false] at hp
      rcases hp with rfl | rfl | rfl | rfl | rfl | rfl | rfl <;> decide +kernel
    rw [e]
    exact this
  · refine .inr ⟨h.no z hz, ?_⟩
    unfold pV
    rw [if_neg hz]
theorem pV_iff (z : Str) (n : Nat) : pV z = .int (n : Int) ↔ (z, n) ∈ partsT := by
  unfold pV
  by_cases hz : z ∈ partsT.map Prod.fst
  · rw [if_pos hz]
    obtain ⟨p, hp, rfl⟩ := List.mem_map.mp hz
    clear hz
    unfold partsT at hp
    simp only [List.mem_cons, List.not_mem_nil, or_false] at hp
    have key : ∀ (a : Str) (m : Nat), partsT.lookup a = some m → ((a, n) ∈ partsT ↔ m = n) → (V.int (((partsT.lookup a).getD 0 : Nat) : Int) = .int (n : Int) ↔ (a, n) ∈ partsT) := fun a m h1 h2 => by
      rw [h1, h2]
      show V.int ((m : Nat) : Int) = .int (n : Int) ↔ m = n
      constructor
      · intro z
        cases z
        rfl
      · rintro rfl
        rfl
    rcases hp with rfl | rfl | rfl | rfl | rfl | rfl | rfl
    · exact key "add" 5 (by decide +kernel) (by unfold partsT; simp [ofString_inj, eq_comm])
    · exact key "parcel" 3 (by decide +kernel) (by unfold partsT; simp [ofString_inj, eq_comm])
    · exact key "end" 2 (by decide +kernel) (by unfold partsT; simp [ofString_inj, eq_comm])
    · exact key "lead" 3 (by decide +kernel) (by unfold partsT; simp [ofString_inj, eq_comm])
    · exact key "hush" 1 (by decide +kernel) (by unfold partsT; simp [ofString_inj, eq_comm])
    · exact key "wake" 1 (by decide +kernel) (by unfold partsT; simp [ofString_inj, eq_comm])
    · exact key "beat" 0 (by decide +kernel) (by unfold partsT; simp [ofString_inj, eq_comm])
  · rw [if_neg hz]
    constructor
    · intro h; cases h
    · intro h; exact absurd (List.mem_map.mpr ⟨_, h, rfl⟩) hz
theorem lc_tupB {K : PySem.W.Frag} {a : Addr} {xs : List V} {i : Nat} {te : TE} {σ : L2.St} {H0 H9 : Hp} {Q : VK} (f : V → V) (hx : TupAt K H0 a xs) (hl : xs.length ≤ 100000)
    (he : ∀ x ∈ xs, ∀ (H : Hp) (Q' : VK), Stp [] H0 H → Q' (f x) H → te ((wipe σ [i]).set i (some x)) H Q')
    (k : ∀ D H', H0 D = none → Stp [] H0 H' → H' D = some (.lst (xs.map f)) → Q (.ref D) H') :
    tLc (fun _ _ R => R (Itt K a) H0) (gName i) tYes te [i] σ H9 Q := by
  intro D hD
  refine lc_tup (K := K) (a := a) (xs := xs) (fun j H => Stp [] H0 H ∧ H D = some (.lst ((xs.take j).map f))) ⟨Stp.new hD, upd_same⟩ (fun j H _ h => (hx.st h.1).sq) (fun j x H hj h => ?_) (fun H h => ?_)
  · refine ⟨wipe1, ?_⟩
    simp only [tYes, reduceIte]
    have hm : x ∈ xs := List.mem_of_getElem? hj
    refine he x hm H _ h.1 ⟨(xs.take j).map f, h.2, ?_, ?_, ?_⟩
    · rw [List.length_map, List.length_take]
      exact Nat.lt_of_le_of_lt (Nat.min_le_right _ _) (Nat.lt_of_le_of_lt hl (by decide))
    · exact stp_acc h.1 hD (by rw [h.2]; intro ys z; cases z)
    · rw [upd_same, List.take_add_one, hj]
      simp
  · have h2 := h.2
    rw [List.take_length] at h2
    exact k D H hD h.1 h2
set_option hygiene false in
local macro_rules | `(tactic| walk_at "rd") => `(tactic| try simp only [L2.start, List.map_cons, List.map_nil, List.length_cons, List.length_nil, Nat.reduceAdd, Nat.reduceSub, Nat.reduceLT, Nat.reduceLeDiff, List.replicate_succ, List.replicate_zero, List.append_nil, List.nil_append, List.cons_append, List.set_cons_zero, List.set_cons_succ, List.getElem?_cons_zero, List.getElem?_cons_succ,
  Option.some.injEq, List.cons.injEq, and_true, true_and, and_assoc, reduceCtorEq, L2.V.int.injEq, L2.V.ref.injEq, L2.V.bl.injEq, L2.V.str.injEq, L2.V.ty.injEq, L2.HO.ins.injEq, L2.HO.lst.injEq, L2.HO.tup.injEq, L2.HO.dK.injEq, exists_eq_left', exists_eq_left, exists_eq_right, exists_eq', exists_eq, exists_and_left, exists_and_right, reduceIte, Bool.false_eq_true, Bool.not_true, Bool.not_false,
  L2.tSeq, L2.tIfS, L2.tRet, L2.tRetN, L2.tNext, L2.tAsg, L2.gName, L2.tVar, L2.tC, L2.tCons, L2.tNil, L2.tCB, L2.tOp, L2.tUn, L2.tTup, L2.tLst, L2.tB, L2.tOr, L2.tAnd, L2.tNot, L2.tAndV, L2.tOrV, L2.tNotV, L2.tIf, L2.tTest, L2.tChain, L2.rI, L2.rI0, L2.rU, L2.tDrop, L2.tNever, L2.tCall, L2.tMeth, L2.tMake, L2.rGcd, L2.tFld, L2.sFld, L2.sFldAug, Mx.sFldA, Mx.sFldAugA, L2.rAdd, L2.rSub, L2.rEq, L2.rNe, L2.tDGet, L2.tDIn, L2.tDNotIn, L2.sDPut,
  Mx.isi_int_bool, Mx.isi_int_int, Mx.isi_int_tuple, Mx.isi_int_list, Mx.isi_int_str, Mx.scal_int, Mx.scal_str, Mx.scal_bl, Mx.ofString_inj, Mx.ofString_beq, Mx.lk_cons, Mx.pf_nil, Mx.pf_cons, Mx.sz1, Mx.sz2, List.lookup_nil, String.reduceEq, decide_true, decide_false, decide_eq_true_eq, Int.natAbs_natCast, L2.upd_same, L2.upd_upd, L2.cxOf, L2.gSub, L2.tPar, L2.gCons, L2.gNil, L2.tSl, L2.tPart, L2.rSlL, L2.gStar1, L2.tKGet2, L2.tNoPart])
set_option hygiene false in
local macro_rules | `(tactic| walk_at "rds") => `(tactic| try simp only [L2.start, List.map_cons, List.map_nil, List.length_cons, List.length_nil, Nat.reduceAdd, Nat.reduceSub, Nat.reduceLT, Nat.reduceLeDiff, List.replicate_succ, List.replicate_zero, List.append_nil, List.nil_append, List.cons_append, List.set_cons_zero, List.set_cons_succ, List.getElem?_cons_zero, List.getElem?_cons_succ,
  Option.some.injEq, List.cons.injEq, and_true, true_and, and_assoc, reduceCtorEq, L2.V.int.injEq, L2.V.ref.injEq, L2.V.bl.injEq, L2.V.str.injEq, L2.V.ty.injEq, L2.HO.ins.injEq, L2.HO.lst.injEq, L2.HO.tup.injEq, L2.HO.dK.injEq, exists_eq_left', exists_eq_left, exists_eq_right, exists_eq', exists_eq, exists_and_left, exists_and_right, reduceIte, Bool.false_eq_true, Bool.not_true, Bool.not_false,
  L2.tSeq, L2.tIfS, L2.tRet, L2.tRetN, L2.tNext, L2.tAsg, L2.gName, L2.tVar, L2.tC, L2.tCons, L2.tNil, L2.tCB, L2.tOp, L2.tUn, L2.tTup, L2.tLst, L2.tB, L2.tOr, L2.tAnd, L2.tNot, L2.tAndV, L2.tOrV, L2.tNotV, L2.tIf, L2.tTest, L2.tChain, L2.rI, L2.rI0, L2.rU, L2.tDrop, L2.tNever, L2.tCall, L2.tMeth, L2.tMake, L2.rGcd, L2.tFld, L2.sFld, L2.sFldAug, Mx.sFldA, Mx.sFldAugA, L2.rAdd, L2.rSub, L2.rEq, L2.rNe, L2.tDGet, L2.tDIn, L2.tDNotIn, L2.sDPut,
  Mx.isi_int_bool, Mx.isi_int_int, Mx.isi_int_tuple, Mx.isi_int_list, Mx.isi_int_str, Mx.scal_int, Mx.scal_str, Mx.scal_bl, Mx.ofString_inj, Mx.ofString_beq, Mx.lk_cons, Mx.pf_nil, Mx.pf_cons, Mx.sz1, Mx.sz2, List.lookup_nil, String.reduceEq, decide_true, decide_false, decide_eq_true_eq, Int.natAbs_natCast, L2.upd_same, L2.upd_upd, L2.cxOf, L2.gSub, L2.tPar, L2.gCons, L2.gNil, L2.tSl, L2.tPart, L2.rSlL, L2.gStar1, L2.tKGet2, L2.tNoPart, *])

section
variable {P : Program} {w : World} {K : PySem.W.Frag} {mg : Str → Option Value} {base : Heap}
def Kn (K : PySem.W.Frag) (H : Hp) (v : V) : Prop := ∃ r, RVat K H r v
theorem Kn.int {H : Hp} (i : Int) : Kn K H (.int i) := ⟨.inl (some i), rfl⟩
theorem Kn.st {F : List Addr} {H H' : Hp} {v : V} (h : Kn K H v) (s : Stp F H H') : Kn K H' v := by
  obtain ⟨r, h⟩ := h
  exact ⟨r, h.st s⟩
def sp_is_wholeR (K : PySem.W.Frag) : Sp := fun vs H Q _ => ∃ (v : V) (lo hi : Int), vs = [v, .int lo, .int hi] ∧ Kn K H v ∧ Q (.bl (wB lo hi v)) H
theorem ok_is_wholeR {f : Addr} {fd : FuncData} (F : Fun K "is_whole" "is_whole" s_is_whole f fd) (B : Blt mg) : FnOk P w K mg base CX0 1 f fd ["number", "low", "high"] (sp_is_wholeR K) := by
  refine F.ok sc_is_whole (fun vs H Q E h => ?_) (fun cdv A outer s H vs Q E hr h => ?_)
  · obtain ⟨n, lo, hi, rfl, _⟩ := h
    rfl
  · obtain ⟨v, lo, hi, rfl, ⟨r, hv⟩, k⟩ := h
    refine ⟨_, pss_cons (ps_if (PW.pt (pw_or (pt_val (b_isi B (pv 0) B.bool PyProof.Rows.boot_bool)) (pw_or1 (pt_not (pt_val (b_isi B (pv 0) B.int PyProof.Rows.boot_int))))))
        (pss_one (ps_ret pe_bl)) pss_nil)
      (pss_one (ps_ret (pe_chain op_le op_le (pv 1) (pv 0) (pv 2)))), ?_⟩
    cases r with
    | inl o =>
      have hv' : v = oV o := hv
      subst hv'
      cases o with
      | none =>
        show _
        walk_at "rd"
        refine isi_nonA (b := false) (by decide +kernel) ?_
        walk_at "rd"
        refine isi_nonA (b := false) (by decide +kernel) ?_
        walk_at "rd"
        exact k
      | some n =>
        show _
        have k' : Q (.bl (decide (lo ≤ n ∧ n ≤ hi))) H := k
        change L2.tSeq _ _ _ _ _
        simp only [oV]
        walk_at "rd"
        by_cases h1 : lo ≤ n
        · rw [if_pos h1]
          rw [show (decide (n ≤ hi)) = decide (lo ≤ n ∧ n ≤ hi) from by simp [h1]]
          exact k'
        · rw [if_neg (by simpa using h1)]
          rw [show (false) = decide (lo ≤ n ∧ n ≤ hi) from by simp [h1]]
          exact k'
    | inr xs =>
      obtain ⟨t, rfl, ht⟩ := hv
      walk_at "rd"
      refine isi_tupA ht (b := false) (by decide +kernel) ?_
      walk_at "rd"
      refine isi_tupA ht (b := false) (by decide +kernel) ?_
      walk_at "rd"
      exact k
def sp_are_plainR (K : PySem.W.Frag) : Sp := fun vs H Q _ => ∃ (a : Addr) (xs : List V), vs = [.ref a] ∧ H a = some (.lst xs) ∧ xs.length ≤ 100000 ∧ (∀ x ∈ xs, Kn K H x) ∧ ∀ H', Stp [] H H' → Q (.bl (xs.all (wB 0 999))) H'
theorem sc_are_plain : FnScope ["parts", "part"] ["parts"] (defScope s_are_plain) := ⟨rfl, rfl, rfl, by decide +kernel, rfl, by decide +kernel, by decide +kernel⟩
theorem ok_are_plainR {f : Addr} {fd : FuncData} (F : Fun K "are_plain" "are_plain" s_are_plain f fd) (B : Blt mg) (G : OwnF P w K mg base "is_whole" 1 ["number", "low", "high"] (sp_is_wholeR K)) : FnOk P w K mg base CX0 2 f fd ["parts"] (sp_are_plainR K) := by
  refine F.ok sc_are_plain (fun vs H Q E h => ?_) (fun cdv A outer s H vs Q E hr h => ?_)
  · obtain ⟨a, xs, rfl, _⟩ := h
    rfl
  · obtain ⟨a, xs, rfl, ha, hl, hx, k⟩ := h
    have nd := sc_are_plain.nd
    refine ⟨_, pss_one (ps_ret (pe_callB (cr_all rfl) (by rfl) B.all PyProof.Rows.boot_all (pa_cons (pe_lc (own := [("part", 1)]) (te := tCall (sp_is_wholeR K) [] E0 (tCons (tVar 1) (tCons (tC (.int 0)) (tCons (tC (.int 999)) tNil)))) rfl nd (pi_list (pv 0)) (blkOk_by (N := ["parts", "part"]) (sc := defScope s_are_plain) (by decide +kernel))
      (fun _ _ _ _ _ => pg_name (i := 1) nd rfl (.inl rfl)) (fun _ _ _ _ _ => pts_nil) (fun _ _ _ _ _ => p_call G hr (pa_cons (pv 1) (pa_cons pe_int (pa_cons pe_int pa_nil))))) pa_nil))), ?_⟩
    walk_at "rd"
    refine ⟨_, rfl, a, rfl, ⟨_, .inl (.inl ha)⟩, lc_pure (K := K) (a := a) (H9 := H) (i := 1) (te := tCall (sp_is_wholeR K) [] E0 (tCons (tVar 1) (tCons (tC (.int 0)) (tCons (tC (.int 999)) tNil)))) (σ := [some (.ref a), none]) (Q := fun x H1 => rAll K [x] H1 _) (fun v => .bl (wB 0 999 v)) (.inl (.inl ha)) hl (fun x hxm H1 Q' hs q => ?_) (fun D H1 hD hs1 hl1 => ?_)⟩
    · exact ⟨_, rfl, x, 0, 999, rfl, (hx x hxm).st hs, q⟩
    · refine ⟨D, xs.map (wB 0 999), rfl, .inl (.inl (by rw [hl1, List.map_map]; rfl)), ?_⟩
      rw [show (xs.map (wB 0 999)).all id = xs.all (wB 0 999) from by rw [List.all_map]; rfl]
      exact k H1 hs1
/-- numbers in a tuple -/
def pB (xs : List V) : Bool := decide (1 ≤ xs.length ∧ xs.length ≤ 32) && xs.all (wB (-999) 999)
def sp_is_parcelR (K : PySem.W.Frag) : Sp := fun vs H Q _ => ∃ (v : V) (r : RV), vs = [v] ∧ RVat K H r v ∧ (∀ xs, r = .inr xs → xs.length ≤ 100000) ∧ ∀ H', Stp [] H H' → Q (.bl (okT r)) H'
theorem sc_is_parcel : FnScope ["numbers", "number"] ["numbers"] (defScope s_is_parcel) := ⟨rfl, rfl, rfl, by decide +kernel, rfl, by decide +kernel, by decide +kernel⟩
theorem ok_is_parcelR {f : Addr} {fd : FuncData} (F : Fun K "is_parcel" "is_parcel" s_is_parcel f fd) (B : Blt mg) (G : OwnF P w K mg base "is_whole" 1 ["number", "low", "high"] (sp_is_wholeR K)) : FnOk P w K mg base CX0 2 f fd ["numbers"] (sp_is_parcelR K) := by
  refine F.ok sc_is_parcel (fun vs H Q E h => ?_) (fun cdv A outer s H vs Q E hr h => ?_)
  · obtain ⟨v, r, rfl, _⟩ := h
    rfl
  · obtain ⟨v, r, rfl, ha, hxl, k⟩ := h
    have nd := sc_is_parcel.nd
    refine ⟨_, pss_cons (ps_if (PW.pt (pw_or (pt_not (pt_val (b_isi B (pv 0) B.tuple PyProof.Rows.boot_tuple))) (pw_or1 (pt_not (pt_val (p_call G hr (pa_cons (pe_callB call_len_seq (by rfl) B.len PySem.boot_len (pa_cons (pv 0) pa_nil)) (pa_cons pe_int (pa_cons pe_int pa_nil))))))))) (pss_one (ps_ret pe_bl)) pss_nil)
      (pss_one (ps_ret (pe_callB (cr_all rfl) (by rfl) B.all PyProof.Rows.boot_all (pa_cons (pe_lc (own := [("number", 1)]) (te := tCall (sp_is_wholeR K) [] E0 (tCons (tVar 1) (tCons (tUn (rU fun i => .int (-i)) (tC (.int 999))) (tCons (tC (.int 999)) tNil)))) rfl nd (pi_tup (pv 0)) (blkOk_by (N := ["numbers", "number"]) (sc := defScope s_is_parcel) (by decide +kernel))
      (fun _ _ _ _ _ => pg_name (i := 1) nd rfl (.inl rfl)) (fun _ _ _ _ _ => pts_nil) (fun _ _ _ _ _ => p_call G hr (pa_cons (pv 1) (pa_cons (pe_un un_neg pe_int) (pa_cons pe_int pa_nil))))) pa_nil)))), ?_⟩
    cases r with
    | inl o =>
      have ha' : v = oV o := ha
      subst ha'
      cases o with
      | none =>
        walk_at "rd"
        refine isi_nonA (b := false) (by decide +kernel) ?_
        walk_at "rd"
        exact k H Stp.refl
      | some n =>
        simp only [oV]
        walk_at "rd"
        exact k H Stp.refl
    | inr xs =>
      obtain ⟨a, rfl, ht⟩ := ha
      have hl := hxl xs rfl
      walk_at "rd"
      refine isi_tupA (b := true) ht (by decide +kernel) ?_
      walk_at "rd"
      refine ⟨_, .inr ht.sq, ?_⟩
      walk_at "rd"
      refine ⟨_, 1, 32, rfl, Kn.int _, ?_⟩
      have el : (xs.map oV).length = xs.length := List.length_map _
      by_cases hw : 1 ≤ xs.length ∧ xs.length ≤ 32
      · rw [show wB 1 32 (.int (((xs.map oV).length : Nat) : Int)) = true from by rw [el]; exact decide_eq_true (by omega)]
        walk_at "rd"
        refine ⟨_, rfl, a, rfl, ⟨_, ht.sq⟩, lc_tupB (K := K) (a := a) (H9 := H) (i := 1) (te := tCall (sp_is_wholeR K) [] E0 (tCons (tVar 1) (tCons (tUn (rU fun i => .int (-i)) (tC (.int 999))) (tCons (tC (.int 999)) tNil)))) (σ := [some (.ref a), none]) (Q := fun x H1 => rAll K [x] H1 _) (fun v => .bl (wB (-999) 999 v)) ht (by rw [List.length_map]; omega) (fun x hxm H1 Q' hs q => ?_) (fun D H1 hD hs1 hl1 => ?_)⟩
        · obtain ⟨n, hn, rfl⟩ := List.mem_map.mp hxm
          exact ⟨_, rfl, _, rfl, _, -999, 999, rfl, ⟨.inl n, rfl⟩, q⟩
        · refine ⟨D, (xs.map oV).map (wB (-999) 999), rfl, .inl (.inl (by rw [hl1, List.map_map, List.map_map, List.map_map]; rfl)), ?_⟩
          have e : ((xs.map oV).map (wB (-999) 999)).all id = okT (.inr xs) := by
            show _ = (decide (1 ≤ xs.length ∧ xs.length ≤ 32) && xs.all (okN (-999) 999))
            rw [decide_eq_true hw, Bool.true_and, List.all_map, List.all_map]
            congr 1
            funext o
            cases o <;> rfl
          rw [e]
          exact k H1 hs1
      · rw [show wB 1 32 (.int (((xs.map oV).length : Nat) : Int)) = false from by rw [el]; exact decide_eq_false (by omega)]
        walk_at "rd"
        have e : okT (.inr xs) = false := by
          show (decide (1 ≤ xs.length ∧ xs.length ≤ 32) && xs.all (okN (-999) 999)) = false
          rw [decide_eq_false hw, Bool.false_and]
        rw [← e]
        exact k H Stp.refl
end
end Mx

namespace Mx
open PySem L2 TL
/-! ### comprehensions of known values -/
theorem pr_range {R : Nat → V → Prop} {n : Nat} {zs : List V} (h : Paired R (List.range n) zs) (ys : List V) (hl : ys.length = n) (hR : ∀ j y, R j y → ys[j]? = some y) : zs = ys := by
  have e := h.length
  rw [List.length_range] at e
  refine List.ext_getElem? fun j => ?_
  by_cases hj : j < n
  · obtain ⟨x, y, hx, hy, q⟩ := pr_get h j (by rw [List.length_range]; exact hj) (by omega)
    rw [List.getElem?_range hj] at hx
    cases hx
    rw [hy, hR _ _ q]
  · rw [List.getElem?_eq_none (by omega), List.getElem?_eq_none (by omega)]
theorem lc_by {J : It} {n : Nat} {G : Hp → Prop} {Y : Nat → Hp → V → Hp → Prop} (w : Walk J n G Y) {H1 H9 : Hp} {i : Nat} {te : TE} {σ : L2.St} {Q : VK} (YX : Nat → V → Prop) (ys : List V) (hl : ys.length = n) (hn : n ≤ 100000)
    (hG : ∀ H, Stp [] H1 H → G H) (hY : ∀ j H x H', j < n → Y j H x H' → H' = H ∧ YX j x)
    (he : ∀ (j : Nat) (x y : V) (H : Hp), YX j x → ys[j]? = some y → Stp [] H1 H → ∀ Q' : VK, (∀ H', Stp [] H H' → Q' y H') → te ((wipe σ [i]).set i (some x)) H Q')
    (k : ∀ D H', H1 D = none → Stp [] H1 H' → H' D = some (.lst ys) → Q (.ref D) H') : tLc (fun _ _ R => R J H1) (gName i) tYes te [i] σ H9 Q := by
  refine lc_rel (H9 := H9) w (F := []) (Z := fun _ => True) (R := fun _ j y => ys[j]? = some y) (p := fun _ => true) (YX := YX) trivial (by simp) (fun _ _ _ _ _ _ _ => trivial) (fun H _ s => hG H s) (fun _ _ _ _ _ h _ => h) hn hY (fun j x H _ _ _ _ Q' q => q H trivial (by assumption) Stp.refl) (fun j x H hj hx _ _ s Q' q => ?_) fun D H' zs hD _ s h hp => ?_
  · obtain ⟨y, hy⟩ : ∃ y, ys[j]? = some y := ⟨_, List.getElem?_eq_getElem (by omega)⟩
    exact he j x y H hx hy s Q' fun H' s' => q y H' hy trivial (s.trans s') s'
  · rw [List.filter_eq_self.mpr (fun _ _ => rfl)] at hp
    rw [pr_range hp ys hl fun _ _ h => h] at h
    exact k D H' hD s h
section
variable {K : PySem.W.Frag} {a : Addr} {xs ys : List V} {i : Nat} {te : TE} {σ : L2.St} {H1 H9 : Hp} {Q : VK}
theorem lc_lstY (ha : H1 a = some (.lst xs)) (hl : ys.length = xs.length) (hn : xs.length ≤ 100000)
    (he : ∀ (j : Nat) (x y : V) (H : Hp), xs[j]? = some x → ys[j]? = some y → Stp [] H1 H → ∀ Q' : VK, (∀ H', Stp [] H H' → Q' y H') → te ((wipe σ [i]).set i (some x)) H Q')
    (k : ∀ D H', H1 D = none → Stp [] H1 H' → H' D = some (.lst ys) → Q (.ref D) H') : tLc (fun _ _ R => R (Itl K a) H1) (gName i) tYes te [i] σ H9 Q :=
  lc_by walk_list (fun j x => xs[j]? = some x) ys hl hn (fun H s => .inl (.inl (s.same _ _ ha))) (fun _ _ _ _ _ h => h) he k
theorem lc_tupY (ha : TupAt K H1 a xs) (hl : ys.length = xs.length) (hn : xs.length ≤ 100000)
    (he : ∀ (j : Nat) (x y : V) (H : Hp), xs[j]? = some x → ys[j]? = some y → Stp [] H1 H → ∀ Q' : VK, (∀ H', Stp [] H H' → Q' y H') → te ((wipe σ [i]).set i (some x)) H Q')
    (k : ∀ D H', H1 D = none → Stp [] H1 H' → H' D = some (.lst ys) → Q (.ref D) H') : tLc (fun _ _ R => R (Itt K a) H1) (gName i) tYes te [i] σ H9 Q :=
  lc_by walk_tup (fun j x => xs[j]? = some x) ys hl hn (fun H s => (ha.st s).sq) (fun _ _ _ _ _ h => h) he k
theorem lc_strY {z : Str} (hl : ys.length = (tl z).length) (hn : (tl z).length ≤ 100000)
    (he : ∀ (j : Nat) (c : Nat) (y : V) (H : Hp), (tl z)[j]? = some c → ys[j]? = some y → Stp [] H1 H → ∀ Q' : VK, (∀ H', Stp [] H H' → Q' y H') → te ((wipe σ [i]).set i (some (.str ⟨#[c]⟩))) H Q')
    (k : ∀ D H', H1 D = none → Stp [] H1 H' → H' D = some (.lst ys) → Q (.ref D) H') : tLc (fun _ _ R => R (Its z) H1) (gName i) tYes te [i] σ H9 Q :=
  lc_by walk_str (fun j x => ∃ c, (tl z)[j]? = some c ∧ x = .str ⟨#[c]⟩) ys (by rw [hl]; rw [← len_tl]; rfl) (by have := hn; rw [← len_tl] at this; exact this) (fun H s => trivial) (fun j H x H' _ h => ⟨h.1, by
    obtain ⟨_, c, h1, h2⟩ := h
    exact ⟨c, by show z.cps.toList[j]? = some c; rw [Array.getElem?_toList]; exact h1, h2⟩⟩) (fun j x y H hx hy s Q' q => by
    obtain ⟨c, hc, rfl⟩ := hx
    exact he j c y H hc hy s Q' q) k
theorem lc_tupYv {j0 : Nat} (hj : σ[j0]? = some (some (.ref a))) (ha : TupAt K H1 a xs) (hl : ys.length = xs.length) (hn : xs.length ≤ 100000)
    (he : ∀ (j : Nat) (x y : V) (H : Hp), xs[j]? = some x → ys[j]? = some y → Stp [] H1 H → ∀ Q' : VK, (∀ H', Stp [] H H' → Q' y H') → te ((wipe σ [i]).set i (some x)) H Q')
    (k : ∀ D H', H1 D = none → Stp [] H1 H' → H' D = some (.lst ys) → Q (.ref D) H') : tLc (iTup K (tVar j0)) (gName i) tYes te [i] σ H1 Q := ⟨_, hj, a, rfl, ⟨_, ha.sq⟩, lc_tupY (H9 := H1) (Q := Q) ha hl hn he k⟩
theorem lc_lstYv {j0 : Nat} (hj : σ[j0]? = some (some (.ref a))) (ha : H1 a = some (.lst xs)) (hl : ys.length = xs.length) (hn : xs.length ≤ 100000)
    (he : ∀ (j : Nat) (x y : V) (H : Hp), xs[j]? = some x → ys[j]? = some y → Stp [] H1 H → ∀ Q' : VK, (∀ H', Stp [] H H' → Q' y H') → te ((wipe σ [i]).set i (some x)) H Q')
    (k : ∀ D H', H1 D = none → Stp [] H1 H' → H' D = some (.lst ys) → Q (.ref D) H') : tLc (iList K (tVar j0)) (gName i) tYes te [i] σ H1 Q := ⟨_, hj, a, rfl, ⟨_, .inl (.inl ha)⟩, lc_lstY (H9 := H1) (Q := Q) ha hl hn he k⟩
theorem lc_lstYm {tl : TE} {H0 : Hp} (htl : ∀ R : VK, (∀ p H', H' p = some (.lst xs) → Stp [] H0 H' → R (.ref p) H') → tl σ H0 R) (hl : ys.length = xs.length) (hn : xs.length ≤ 100000)
    (he : ∀ (j : Nat) (x y : V) (H : Hp), xs[j]? = some x → ys[j]? = some y → Stp [] H0 H → ∀ Q' : VK, (∀ H', Stp [] H H' → Q' y H') → te ((wipe σ [i]).set i (some x)) H Q')
    (k : ∀ D H', H0 D = none → Stp [] H0 H' → H' D = some (.lst ys) → Q (.ref D) H') : tLc (iList K tl) (gName i) tYes te [i] σ H0 Q := htl _ fun p H' hp s0 =>
  ⟨p, rfl, ⟨_, .inl (.inl hp)⟩, lc_lstY (H9 := H0) (Q := Q) hp hl hn (fun j x y H h1 h2 s => he j x y H h1 h2 ((s0.trans s).sub (by simp))) fun D H2 hD s hd => k D H2 (s0.free hD (by simp)) ((s0.trans s).sub (by simp)) hd⟩
theorem lc_strYv {j0 : Nat} {z : Str} (hj : σ[j0]? = some (some (.str z))) (hl : ys.length = (tl z).length) (hn : (tl z).length ≤ 100000)
    (he : ∀ (j : Nat) (c : Nat) (y : V) (H : Hp), (tl z)[j]? = some c → ys[j]? = some y → Stp [] H1 H → ∀ Q' : VK, (∀ H', Stp [] H H' → Q' y H') → te ((wipe σ [i]).set i (some (.str ⟨#[c]⟩))) H Q')
    (k : ∀ D H', H1 D = none → Stp [] H1 H' → H' D = some (.lst ys) → Q (.ref D) H') : tLc (iStr (tVar j0)) (gName i) tYes te [i] σ H1 Q := ⟨_, hj, z, rfl, lc_strY (H9 := H1) (Q := Q) hl hn he k⟩
end
set_option hygiene false in
local macro_rules | `(tactic| walk_at "rd") => `(tactic| try simp only [L2.start, List.map_cons, List.map_nil, List.length_cons, List.length_nil, Nat.reduceAdd, Nat.reduceSub, Nat.reduceLT, Nat.reduceLeDiff, List.replicate_succ, List.replicate_zero, List.append_nil, List.nil_append, List.cons_append, List.set_cons_zero, List.set_cons_succ, List.getElem?_cons_zero, List.getElem?_cons_succ,
  Option.some.injEq, List.cons.injEq, and_true, true_and, and_assoc, reduceCtorEq, L2.V.int.injEq, L2.V.ref.injEq, L2.V.bl.injEq, L2.V.str.injEq, L2.V.ty.injEq, L2.HO.ins.injEq, L2.HO.lst.injEq, L2.HO.tup.injEq, L2.HO.dK.injEq, exists_eq_left', exists_eq_left, exists_eq_right, exists_eq', exists_eq, exists_and_left, exists_and_right, reduceIte, Bool.false_eq_true, Bool.not_true, Bool.not_false,
  L2.tSeq, L2.tIfS, L2.tRet, L2.tRetN, L2.tNext, L2.tAsg, L2.gName, L2.tVar, L2.tC, L2.tCons, L2.tNil, L2.tCB, L2.tOp, L2.tUn, L2.tTup, L2.tLst, L2.tB, L2.tOr, L2.tAnd, L2.tNot, L2.tAndV, L2.tOrV, L2.tNotV, L2.tIf, L2.tTest, L2.tChain, L2.rI, L2.rI0, L2.rU, L2.tDrop, L2.tNever, L2.tCall, L2.tMeth, L2.tMake, L2.rGcd, L2.tFld, L2.sFld, L2.sFldAug, Mx.sFldA, Mx.sFldAugA, L2.rAdd, L2.rSub, L2.rEq, L2.rNe, L2.tDGet, L2.tDIn, L2.tDNotIn, L2.sDPut,
  Mx.isi_int_bool, Mx.isi_int_int, Mx.isi_int_tuple, Mx.isi_int_list, Mx.isi_int_str, Mx.scal_int, Mx.scal_str, Mx.scal_bl, Mx.ofString_inj, Mx.ofString_beq, Mx.lk_cons, Mx.pf_nil, Mx.pf_cons, Mx.sz1, Mx.sz2, List.lookup_nil, String.reduceEq, decide_true, decide_false, decide_eq_true_eq, Int.natAbs_natCast, L2.upd_same, L2.upd_upd, L2.cxOf, L2.gSub, L2.tPar, L2.gCons, L2.gNil, L2.tSl, L2.tPart, L2.rSlL, L2.gStar1, L2.tKGet2, L2.tNoPart, L2.tM1])
set_option hygiene false in
local macro_rules | `(tactic| walk_at "rds") => `(tactic| try simp only [L2.start, List.map_cons, List.map_nil, List.length_cons, List.length_nil, Nat.reduceAdd, Nat.reduceSub, Nat.reduceLT, Nat.reduceLeDiff, List.replicate_succ, List.replicate_zero, List.append_nil, List.nil_append, List.cons_append, List.set_cons_zero, List.set_cons_succ, List.getElem?_cons_zero, List.getElem?_cons_succ,
  Option.some.injEq, List.cons.injEq, and_true, true_and, and_assoc, reduceCtorEq, L2.V.int.injEq, L2.V.ref.injEq, L2.V.bl.injEq, L2.V.str.injEq, L2.V.ty.injEq, L2.HO.ins.injEq, L2.HO.lst.injEq, L2.HO.tup.injEq, L2.HO.dK.injEq, exists_eq_left', exists_eq_left, exists_eq_right, exists_eq', exists_eq, exists_and_left, exists_and_right, reduceIte, Bool.false_eq_true, Bool.not_true, Bool.not_false,
  L2.tSeq, L2.tIfS, L2.tRet, L2.tRetN, L2.tNext, L2.tAsg, L2.gName, L2.tVar, L2.tC, L2.tCons, L2.tNil, L2.tCB, L2.tOp, L2.tUn, L2.tTup, L2.tLst, L2.tB, L2.tOr, L2.tAnd, L2.tNot, L2.tAndV, L2.tOrV, L2.tNotV, L2.tIf, L2.tTest, L2.tChain, L2.rI, L2.rI0, L2.rU, L2.tDrop, L2.tNever, L2.tCall, L2.tMeth, L2.tMake, L2.rGcd, L2.tFld, L2.sFld, L2.sFldAug, Mx.sFldA, Mx.sFldAugA, L2.rAdd, L2.rSub, L2.rEq, L2.rNe, L2.tDGet, L2.tDIn, L2.tDNotIn, L2.sDPut,
  Mx.isi_int_bool, Mx.isi_int_int, Mx.isi_int_tuple, Mx.isi_int_list, Mx.isi_int_str, Mx.scal_int, Mx.scal_str, Mx.scal_bl, Mx.ofString_inj, Mx.ofString_beq, Mx.lk_cons, Mx.pf_nil, Mx.pf_cons, Mx.sz1, Mx.sz2, List.lookup_nil, String.reduceEq, decide_true, decide_false, decide_eq_true_eq, Int.natAbs_natCast, L2.upd_same, L2.upd_upd, L2.cxOf, L2.gSub, L2.tPar, L2.gCons, L2.gNil, L2.tSl, L2.tPart, L2.rSlL, L2.gStar1, L2.tKGet2, L2.tNoPart, L2.tM1, *])

section
variable {P : Program} {w : World} {K : PySem.W.Frag} {mg : Str → Option Value} {base : Heap}
theorem cut_1 (xs : List V) : cutV xs (some 1) none = xs.drop 1 := by
  cases xs with
  | nil => rfl
  | cons x r =>
    show (List.drop (HT.sIx (r.length + 1) 0 (some 1)) (x :: r)).take _ = r
    have e : HT.sIx (r.length + 1) 0 (some 1) = 1 := by
      unfold HT.sIx
      simp
    have e2 : HT.sIx (r.length + 1) (r.length + 1) none = r.length + 1 := rfl
    show (List.drop (HT.sIx (r.length + 1) 0 (some 1)) (x :: r)).take (HT.sIx (r.length + 1) (r.length + 1) none - HT.sIx (r.length + 1) 0 (some 1)) = r
    rw [e, e2]
    show r.take (r.length + 1 - 1) = r
    rw [Nat.add_sub_cancel, List.take_length]
theorem cut_2 (xs : List V) : cutV xs none (some 2) = xs.take 2 := by
  show (xs.drop (HT.sIx xs.length 0 none)).take (HT.sIx xs.length xs.length (some 2) - HT.sIx xs.length 0 none) = xs.take 2
  have e0 : HT.sIx xs.length 0 none = 0 := rfl
  rw [e0, List.drop_zero, Nat.sub_zero]
  have e2 : HT.sIx xs.length xs.length (some 2) = min 2 xs.length := by
    unfold HT.sIx
    simp
  rw [e2, List.take_eq_take_iff]
  omega
def sp_is_deedR (K : PySem.W.Frag) : Sp := fun vs H Q _ => ∃ (a : Addr) (d : DD), vs = [.ref a] ∧ d.at K H a ∧ d.rs.length ≤ 100000 ∧ (∀ xs, Sum.inr xs ∈ d.rs → xs.length ≤ 100000) ∧ ∀ H', Stp [] H H' → Q (.bl (okD d)) H'
theorem sc_is_deed : FnScope ["deed", "word", "parts"] ["deed"] (defScope s_is_deed) := ⟨rfl, rfl, rfl, by decide +kernel, rfl, by decide +kernel, by decide +kernel⟩
theorem ok_is_deedR {f aP : Addr} {fd : FuncData} (F : Fun K "is_deed" "is_deed" s_is_deed f fd) (B : Blt mg) (hP : PartsOk2 K w mg aP) (GA : OwnF P w K mg base "are_plain" 2 ["parts"] (sp_are_plainR K)) (GP : OwnF P w K mg base "is_parcel" 2 ["numbers"] (sp_is_parcelR K)) : FnOk P w K mg base CX0 3 f fd ["deed"] (sp_is_deedR K) := by
  refine F.ok sc_is_deed (fun vs H Q E h => ?_) (fun cdv A outer s H vs Q E hr h => ?_)
  · obtain ⟨a, xs, rfl, _⟩ := h
    rfl
  · obtain ⟨a, d, rfl, hd, hl, hxl, k⟩ := h
    have nd := sc_is_deed.nd
    refine ⟨_, pss_cons (ps_if (PW.pt (pw_or (pt_not (pt_val (b_isi B (pv 0) B.tuple PyProof.Rows.boot_tuple))) (pw_or1 (pt_cmpR op_eq (pe_callB call_len_seq (by rfl) B.len PySem.boot_len (pa_cons (pv 0) pa_nil)) pe_int (nomark _))))) pss_never pss_nil)
      (pss_cons (ps_asg (pv 0) (pg_star1 (i := 1) (j := 2) rfl nd rfl (.inl rfl) rfl (.inl rfl)))
      (pss_cons (ps_if (PW.pt (pw_or (pt_not (pt_val (b_isi B (pv 1) B.str PyProof.Rows.boot_str))) (pw_or1 (pt_cmpR op_ne (pe_kget2 (pe_glob (v := .ref aP) (by rfl) hP.mg rfl) (pv 1) ⟨rfl, rfl, rfl, rfl⟩) (pe_callB call_len_seq (by rfl) B.len PySem.boot_len (pa_cons (pv 2) pa_nil)) (nomark _))))) (pss_one (ps_ret pe_bl)) pss_nil)
      (pss_cons (ps_if (pt_cmpR op_eq (pv 1) pe_str (nomark _)) (pss_one (ps_ret (pe_and (p_call GA hr (pa_cons (pe_slice sl_list (pv 2) po_none (po_some pe_int)) pa_nil)) (pe_one (p_call GP hr (pa_cons (pe_ix ix_list (pv 2) pe_int (fun _ _ => rfl)) pa_nil)))))) pss_nil)
      (pss_one (ps_ret (p_call GA hr (pa_cons (pv 2) pa_nil))))))), ?_⟩
    obtain ⟨wd, rs⟩ := d
    obtain ⟨xs, ht, hp⟩ := hd
    have hlen := hp.length
    have hl' : rs.length ≤ 100000 := hl
    have ek : ∀ H' b, Stp [] H H' → okD ⟨wd, rs⟩ = b → Q (.bl b) H' := fun H' b s' e => e ▸ k H' s'
    clear k
    walk_at "rd"
    refine isi_tupA (b := true) ht (by decide +kernel) ?_
    walk_at "rd"
    refine ⟨_, .inr ht.sq, ?_⟩
    walk_at "rd"
    rw [if_neg (by omega)]
    refine ⟨.str wd, xs, ht.sq, fun p hp0 => ?_⟩
    have s1 := Stp.new (o := .lst xs) hp0
    have e1 : upd H p (.lst xs) p = some (.lst xs) := upd_same
    have hp1 := pr_mapR (fun _ _ q => RVat.st q s1) hp
    generalize upd H p (.lst xs) = H1 at *
    refine isi_strA (b := true) (by decide +kernel) ⟨_, rfl, ?_⟩
    rw [if_neg (by decide)]
    obtain ⟨es, n, a1, a2⟩ := hP.at_
    refine ⟨⟨es, ⟨n, a1⟩, a2⟩, hP.sys, wd, rfl, pV wd, hP.get wd, xs, .inl (.inl (.inl e1)), ?_, ?_⟩
    · unfold pV
      split <;> rfl
    have hmem := pV_iff wd xs.length
    have elen : xs.length = rs.length := hlen.symm
    have hkn : ∀ x ∈ xs, Kn K H1 x := by
      intro x hx
      obtain ⟨j, hj, rfl⟩ := List.mem_iff_getElem.mp hx
      obtain ⟨r, y, _, hy, q⟩ := pr_get hp1 j (by omega) hj
      rw [List.getElem?_eq_getElem hj] at hy
      cases hy
      exact ⟨r, q⟩
    by_cases hm : (wd, rs.length) ∈ partsT
    · rw [elen] at hmem
      rw [elen, decide_eq_true (hmem.mpr hm)]
      rw [if_neg (by decide)]
      refine ⟨rfl, ?_⟩
      by_cases hw : wd = "parcel"
      · subst hw
        rw [if_pos rfl]
        walk_at "rd"
        refine ⟨_, .inl (.inl e1), fun p2 hp2 => ?_⟩
        rw [cut_2]
        have s2 := Stp.new (o := .lst (xs.take 2)) hp2
        have e2 : upd H1 p2 (.lst (xs.take 2)) p2 = some (.lst (xs.take 2)) := upd_same
        have e12 := s2.keep _ _ e1 (by simp)
        have hp3 := pr_mapR (fun _ _ q => RVat.st q s2) hp1
        generalize upd H1 p2 _ = H2 at *
        refine ⟨p2, xs.take 2, rfl, e2, by rw [List.length_take]; omega, fun x hx => (hkn x (List.mem_of_mem_take hx)).st s2, fun H3 s3 => ⟨_, rfl, ?_⟩⟩
        have ea := all_wB (pr_take 2 hp3)
        rw [ea]
        have hl3 : rs.length = 3 := by
          have hm' := hm
          unfold partsT at hm'
          simp only [List.mem_cons, Prod.mk.injEq, List.not_mem_nil, or_false, ofString_inj, String.reduceEq, false_and, true_and, false_or] at hm'
          exact hm'
        match rs, xs, hl3, hp3, ek, hxl with
        | [r0, r1, r2], _, _, .cons q0 (.cons q1 (.cons (b := v2) q2 .nil)), ek, hxl =>
        have eo : okD ⟨"parcel", [r0, r1, r2]⟩ = (([r0, r1, r2].take 2).all okP && okT r2) := by
          unfold okD
          rw [decide_eq_true hm, Bool.true_and, if_pos rfl]
          rfl
        cases hb : ([r0, r1, r2].take 2).all okP with
        | false =>
          rw [if_neg (by decide)]
          exact ek H3 _ ((s1.trans (s2.trans s3)).sub (by simp)) (by rw [eo, hb, Bool.false_and])
        | true =>
          rw [if_pos rfl]
          refine ixL (.inl (.inl (s3.keep _ _ e12 (by simp)))) (x := v2) rfl ?_
          have s03 := s1.trans (s2.trans s3)
          refine ⟨v2, r2, rfl, q2.st s3, fun ys e => hxl ys (by rw [e]; simp), fun H4 s4 => ek H4 _ ((s03.trans s4).sub (by simp)) (by rw [eo, hb, Bool.true_and])⟩
      · rw [if_neg (by simpa using hw)]
        refine ⟨p, xs, rfl, e1, by omega, hkn, fun H' s' => ek H' _ ((s1.trans s').sub (by simp)) ?_⟩
        unfold okD
        rw [decide_eq_true hm, Bool.true_and, if_neg hw]
        exact (all_wB hp1).symm
    · rw [elen] at hmem
      rw [elen, decide_eq_false (fun z => hm (hmem.mp z))]
      rw [if_pos (by decide)]
      refine ek _ _ (s1.sub (by simp)) ?_
      unfold okD
      rw [decide_eq_false hm, Bool.false_and]
def sp_check_deedsR (K : PySem.W.Frag) : Sp := fun vs H Q _ => ∃ (a : Addr) (ps : List Addr), vs = [.ref a] ∧ H a = some (.lst (ps.map V.ref)) ∧ ps.length ≤ 300 ∧ (∀ p ∈ ps, ∃ d : DD, d.at K H p ∧ okD d = true) ∧ ∀ H', Stp [] H H' → Q .non H'
theorem okD_len {d : DD} (h : okD d = true) : d.rs.length ≤ 100000 ∧ ∀ xs, Sum.inr xs ∈ d.rs → xs.length ≤ 100000 := by
  have g := Good.of h
  have := (w_ne g.mem).2.2
  refine ⟨by omega, fun xs hx => ?_⟩
  rcases g.c with ⟨_, ns, e, _⟩ | ⟨_, n, pl, ms, e, _, _, h3, _⟩
  · rw [e] at hx
    obtain ⟨i, _, z⟩ := List.mem_map.mp hx
    cases z
  · rw [e] at hx
    simp only [List.mem_cons, List.not_mem_nil, or_false, reduceCtorEq, false_or, Sum.inr.injEq] at hx
    subst hx
    rw [List.length_map]
    omega
theorem sc_check_deeds : FnScope ["deeds", "number", "deed"] ["deeds"] (defScope s_check_deeds) := ⟨rfl, rfl, rfl, by decide +kernel, rfl, by decide +kernel, by decide +kernel⟩
theorem ok_check_deedsR {f : Addr} {fd : FuncData} (F : Fun K "check_deeds" "check_deeds" s_check_deeds f fd) (B : Blt mg) {tm : Tok} (hM : mg "MOST_DEEDS" = some (.int 300 tm)) (G : OwnF P w K mg base "is_deed" 3 ["deed"] (sp_is_deedR K)) : FnOk P w K mg base CX0 4 f fd ["deeds"] (sp_check_deedsR K) := by
  refine F.ok sc_check_deeds (fun vs H Q E h => ?_) (fun cdv A outer s H vs Q E hr h => ?_)
  · obtain ⟨a, ps, rfl, _⟩ := h
    rfl
  · obtain ⟨a, ps, rfl, ha, hl, hd, k⟩ := h
    have nd := sc_check_deeds.nd
    refine ⟨_, (pss_one (ps_for PassesOwn.never rfl (pi_enum (by rfl) B.enumerate (pa_cons (pv 0) pa_nil)) (pg_tup rfl (pgs_cons (pg_name (i := 1) nd rfl (.inl rfl)) (pgs_cons (pg_name (i := 2) nd rfl (.inl rfl)) pgs_nil))) (pss_one (ps_if (PW.pt (pw_or (pt_cmpR op_ge (pv 1) (pe_glob (v := .int 300) (by rfl) hM ⟨_, rfl⟩) (nomark _)) (pw_or1 (pt_not (pt_val (p_call G hr (pa_cons (pv 2) pa_nil))))))) (pss_one ps_never) pss_nil)))), ?_⟩
    refine ⟨_, rfl, a, _, rfl, .inl (.inl ha), for_enum (K := K) (a := a) (xs := ps.map V.ref) (fun i σ H2 => ∃ v1 v2, σ = [some (.ref a), v1, v2] ∧ Stp [] H H2) ⟨_, _, rfl, Stp.refl⟩ (fun i σ H2 _ h => ?_) (fun i x σ H2 T hi h hT => ?_) (fun σ H2 h => ?_)⟩
    · obtain ⟨_, _, _, s2⟩ := h
      exact .inl (.inl (s2.keep _ _ ha (by simp)))
    · obtain ⟨v1, v2, rfl, s2⟩ := h
      rw [List.getElem?_map] at hi
      obtain ⟨p, hn, rfl⟩ := Option.map_eq_some_iff.mp hi
      obtain ⟨d, hd1, hd2⟩ := hd p (List.mem_of_getElem? hn)
      have hil := (List.getElem?_eq_some_iff.mp hn).1
      have s3 := Stp.new (o := .tup [.int (i : Nat), .ref p]) hT
      refine ⟨T, _, rfl, .inl (.inl upd_same), rfl, ?_⟩
      walk_at "rd"
      rw [if_neg (show ¬ (300 : Int) ≤ (i : Int) by omega)]
      refine ⟨p, d, rfl, (hd1.st s2).st s3, (okD_len hd2).1, (okD_len hd2).2, fun H3 s4 => ⟨_, rfl, ?_⟩⟩
      rw [hd2]
      refine iteF ?_
      exact ((s2.trans s3).trans s4).sub (by simp)
    · obtain ⟨v1, v2, rfl, s2⟩ := h
      exact k H2 s2
end
end Mx

namespace Mx
open PySem L2 TL
/-! ### texts cut: how many, how long -/
theorem spl_bound (s : Nat) : ∀ (L acc : List Nat), (spl [s] 0 acc L).length ≤ L.length + 1 ∧ ∀ w ∈ spl [s] 0 acc L, w.length ≤ acc.length + L.length
  | [], acc => by
    rw [spl_nil]
    exact ⟨by simp, fun w hw => by rw [List.mem_singleton.mp hw]; simp⟩
  | c :: r, acc => by
    by_cases h : pre [s] (c :: r) = true
    · rw [spl_hit h]
      have ih := spl_bound s r []
      refine ⟨by simp only [List.length_cons]; have := ih.1; show (spl [s] 0 [] r).length + 1 ≤ _; omega, fun w hw => ?_⟩
      rcases List.mem_cons.mp hw with rfl | hw
      · simp
      · have := ih.2 w hw
        simp only [List.length_cons, List.length_nil] at this ⊢
        omega
    · have h' : pre [s] (c :: r) = false := by simpa using h
      rw [spl_miss h']
      have ih := spl_bound s r (acc ++ [c])
      refine ⟨by simp only [List.length_cons]; have := ih.1; omega, fun w hw => ?_⟩
      have := ih.2 w hw
      simp only [List.length_append, List.length_cons, List.length_nil] at this ⊢
      omega
theorem split_bound {x y : Str} {s : Nat} (hy : tl y = [s]) (hk : y.cps.all (· < 256) = true) : (Txt.split x y).length ≤ x.length + 1 ∧ ∀ w ∈ Txt.split x y, w.length ≤ x.length := by
  have e := split_spl x y (by rw [hy]; simp) (kind_ok hk)
  rw [hy] at e
  have b := spl_bound s (tl x) []
  have el := congrArg List.length e
  rw [List.length_map] at el
  refine ⟨by rw [el, len_tl]; exact b.1, fun w hw => ?_⟩
  have := b.2 (tl w) (by rw [← e]; exact List.mem_map.mpr ⟨w, hw, rfl⟩)
  rw [len_tl, len_tl]
  simpa using this
theorem spl_ne (s : Nat) : ∀ (L acc : List Nat), spl [s] 0 acc L ≠ []
  | [], acc => by rw [spl_nil]; simp
  | c :: r, acc => by
    by_cases h : pre [s] (c :: r) = true
    · rw [spl_hit h]; simp
    · have h' : pre [s] (c :: r) = false := by simpa using h
      rw [spl_miss h']
      exact spl_ne s r _
theorem split_ne {x y : Str} {s : Nat} (hy : tl y = [s]) (hk : y.cps.all (· < 256) = true) : Txt.split x y ≠ [] := by
  have e := split_spl x y (by rw [hy]; simp) (kind_ok hk)
  rw [hy] at e
  intro z
  rw [z] at e
  exact spl_ne s (tl x) [] e.symm
theorem digits_le : ∀ l : List Nat, l.all isFig = true → l.length ≤ 3 → NumText.digitsVal l ≤ 999 := by
  intro l ha hl
  have hx : ∀ c ∈ l, c ≤ 57 := fun c hc => (all_fig ha c hc).2
  match l, hl with
  | [], _ => decide
  | [a], _ => have := hx a (by simp); simp only [NumText.digitsVal, List.foldl_cons, List.foldl_nil]; omega
  | [a, b], _ => have := hx a (by simp); have := hx b (by simp); simp only [NumText.digitsVal, List.foldl_cons, List.foldl_nil]; omega
  | [a, b, c], _ => have := hx a (by simp); have := hx b (by simp); have := hx c (by simp); simp only [NumText.digitsVal, List.foldl_cons, List.foldl_nil]; omega
  | a :: b :: c :: d :: r, hl => simp only [List.length_cons] at hl; omega
theorem okF_le {L : List Nat} (h : okF L = true) : -999 ≤ valF L ∧ valF L ≤ 999 := by
  unfold okF at h
  simp only [Bool.and_eq_true, decide_eq_true_eq] at h
  have := digits_le _ h.2 h.1.2
  unfold valF
  split <;> omega
theorem figs_len (L : List Nat) : L.length ≤ (figs L).length + 1 ∧ (figs L).length ≤ L.length := by
  cases hn : neg? L with
  | true =>
    have e := figs_neg hn
    have := congrArg List.length e
    rw [List.length_cons] at this
    omega
  | false =>
    rw [figs_pos hn]
    omega
theorem log_ok {i : Int} (h0 : -999 ≤ i) (h1 : i ≤ 999) : i.natAbs.log2 < 1920 := by
  have := Nat.log2_le_self i.natAbs
  omega
/-- str of a number or of a text -/
def rStrA : List V → Hp → VK → Prop := fun xs H Q => (∃ i, xs = [.int i] ∧ i.natAbs.log2 < 1920 ∧ Q (.str (toString i)) H) ∨ ∃ a, xs = [.str a] ∧ Q (.str a) H
theorem call_strA {X : Cx} : CallR X (.type "str") rStrA := by
  intro pins s σ H xs us Q I r h
  rcases h with h | h
  · exact call_str_int pins s σ H xs us Q I r h
  · exact SkE.call_str_str pins s σ H xs us Q I r h
set_option hygiene false in
local macro_rules | `(tactic| walk_at "rd") => `(tactic| try simp only [L2.start, List.map_cons, List.map_nil, List.length_cons, List.length_nil, Nat.reduceAdd, Nat.reduceSub, Nat.reduceLT, Nat.reduceLeDiff, List.replicate_succ, List.replicate_zero, List.append_nil, List.nil_append, List.cons_append, List.set_cons_zero, List.set_cons_succ, List.getElem?_cons_zero, List.getElem?_cons_succ,
  Option.some.injEq, List.cons.injEq, and_true, true_and, and_assoc, reduceCtorEq, L2.V.int.injEq, L2.V.ref.injEq, L2.V.bl.injEq, L2.V.str.injEq, L2.V.ty.injEq, L2.HO.ins.injEq, L2.HO.lst.injEq, L2.HO.tup.injEq, L2.HO.dK.injEq, exists_eq_left', exists_eq_left, exists_eq_right, exists_eq', exists_eq, exists_and_left, exists_and_right, reduceIte, Bool.false_eq_true, Bool.not_true, Bool.not_false,
  L2.tSeq, L2.tIfS, L2.tRet, L2.tRetN, L2.tNext, L2.tAsg, L2.gName, L2.tVar, L2.tC, L2.tCons, L2.tNil, L2.tCB, L2.tOp, L2.tUn, L2.tTup, L2.tLst, L2.tB, L2.tOr, L2.tAnd, L2.tNot, L2.tAndV, L2.tOrV, L2.tNotV, L2.tIf, L2.tTest, L2.tChain, L2.rI, L2.rI0, L2.rU, L2.tDrop, L2.tNever, L2.tCall, L2.tMeth, L2.tMake, L2.rGcd, L2.tFld, L2.sFld, L2.sFldAug, Mx.sFldA, Mx.sFldAugA, L2.rAdd, L2.rSub, L2.rEq, L2.rNe, L2.tDGet, L2.tDIn, L2.tDNotIn, L2.sDPut,
  Mx.isi_int_bool, Mx.isi_int_int, Mx.isi_int_tuple, Mx.isi_int_list, Mx.isi_int_str, Mx.scal_int, Mx.scal_str, Mx.scal_bl, Mx.ofString_inj, Mx.ofString_beq, Mx.lk_cons, Mx.pf_nil, Mx.pf_cons, Mx.sz1, Mx.sz2, List.lookup_nil, String.reduceEq, decide_true, decide_false, decide_eq_true_eq, Int.natAbs_natCast, L2.upd_same, L2.upd_upd, L2.cxOf, L2.gSub, L2.tPar, L2.gCons, L2.gNil, L2.tSl, L2.tPart, L2.rSlL, L2.gStar1, L2.tKGet2, L2.tNoPart, L2.tM1])
set_option hygiene false in
local macro_rules | `(tactic| walk_at "rds") => `(tactic| try simp only [L2.start, List.map_cons, List.map_nil, List.length_cons, List.length_nil, Nat.reduceAdd, Nat.reduceSub, Nat.reduceLT, Nat.reduceLeDiff, List.replicate_succ, List.replicate_zero, List.append_nil, List.nil_append, List.cons_append, List.set_cons_zero, List.set_cons_succ, List.getElem?_cons_zero, List.getElem?_cons_succ,
  Option.some.injEq, List.cons.injEq, and_true, true_and, and_assoc, reduceCtorEq, L2.V.int.injEq, L2.V.ref.injEq, L2.V.bl.injEq, L2.V.str.injEq, L2.V.ty.injEq, L2.HO.ins.injEq, L2.HO.lst.injEq, L2.HO.tup.injEq, L2.HO.dK.injEq, exists_eq_left', exists_eq_left, exists_eq_right, exists_eq', exists_eq, exists_and_left, exists_and_right, reduceIte, Bool.false_eq_true, Bool.not_true, Bool.not_false,
  L2.tSeq, L2.tIfS, L2.tRet, L2.tRetN, L2.tNext, L2.tAsg, L2.gName, L2.tVar, L2.tC, L2.tCons, L2.tNil, L2.tCB, L2.tOp, L2.tUn, L2.tTup, L2.tLst, L2.tB, L2.tOr, L2.tAnd, L2.tNot, L2.tAndV, L2.tOrV, L2.tNotV, L2.tIf, L2.tTest, L2.tChain, L2.rI, L2.rI0, L2.rU, L2.tDrop, L2.tNever, L2.tCall, L2.tMeth, L2.tMake, L2.rGcd, L2.tFld, L2.sFld, L2.sFldAug, Mx.sFldA, Mx.sFldAugA, L2.rAdd, L2.rSub, L2.rEq, L2.rNe, L2.tDGet, L2.tDIn, L2.tDNotIn, L2.sDPut,
  Mx.isi_int_bool, Mx.isi_int_int, Mx.isi_int_tuple, Mx.isi_int_list, Mx.isi_int_str, Mx.scal_int, Mx.scal_str, Mx.scal_bl, Mx.ofString_inj, Mx.ofString_beq, Mx.lk_cons, Mx.pf_nil, Mx.pf_cons, Mx.sz1, Mx.sz2, List.lookup_nil, String.reduceEq, decide_true, decide_false, decide_eq_true_eq, Int.natAbs_natCast, L2.upd_same, L2.upd_upd, L2.cxOf, L2.gSub, L2.tPar, L2.gCons, L2.gNil, L2.tSl, L2.tPart, L2.rSlL, L2.gStar1, L2.tKGet2, L2.tNoPart, L2.tM1, *])

section
variable {P : Program} {w : World} {K : PySem.W.Frag} {mg : Str → Option Value} {base : Heap}
/-! ### rows -/
abbrev teStr (i : Nat) : TE := tCB rStrA (tCons (tVar i) tNil)
def sp_word_of (K : PySem.W.Frag) : Sp := fun vs H Q _ => ∃ v, vs = [v] ∧ ((∃ z, v = .str z ∧ Q (.str z) H) ∨ (∃ i : Int, v = .int i ∧ -999 ≤ i ∧ i ≤ 999 ∧ Q (.str (numS i)) H) ∨
  (∃ (t : Addr) (xs : List Int), v = .ref t ∧ TupAt K H t (xs.map V.int) ∧ xs.length ≤ 32 ∧ (∀ i ∈ xs, -999 ≤ i ∧ i ≤ 999) ∧ ∀ H', Stp [] H H' → Q (.str (Txt.join "," (xs.map numS))) H'))
theorem sc_word_of : FnScope ["part", "number"] ["part"] (defScope s_word_of) := ⟨rfl, rfl, rfl, by decide +kernel, rfl, by decide +kernel, by decide +kernel⟩
theorem ok_word_of {f : Addr} {fd : FuncData} (F : Fun K "word_of" "word_of" s_word_of f fd) (B : Blt mg) : FnOk P w K mg base CX0 1 f fd ["part"] (sp_word_of K) := by
  refine F.ok sc_word_of (fun vs H Q E h => ?_) (fun cdv A outer s H vs Q E hr h => ?_)
  · obtain ⟨v, rfl, _⟩ := h
    rfl
  · obtain ⟨v, rfl, h⟩ := h
    have nd := sc_word_of.nd
    refine ⟨_, pss_cons (ps_if (pt_val (b_isi B (pv 0) B.tuple PyProof.Rows.boot_tuple)) (pss_one (ps_ret (pe_join pe_str (pe_lc (own := [("number", 1)]) (te := teStr 1) rfl nd (pi_tup (pv 0)) (blkOk_by (N := ["part", "number"]) (sc := defScope s_word_of) (by decide +kernel))
      (fun _ _ _ _ _ => pg_name (i := 1) nd rfl (.inl rfl)) (fun _ _ _ _ _ => pts_nil) (fun _ _ _ _ _ => pe_callTy call_strA (by rfl) B.str PyProof.Rows.boot_str (pa_cons (pv 1) pa_nil)))))) pss_nil)
      (pss_one (ps_ret (pe_callTy call_strA (by rfl) B.str PyProof.Rows.boot_str (pa_cons (pv 0) pa_nil)))), ?_⟩
    rcases h with ⟨z, rfl, k⟩ | ⟨i, rfl, i0, i1, k⟩ | ⟨t, xs, rfl, ht, hl, hx, k⟩
    · walk_at "rd"
      refine isi_strA (b := false) (by decide +kernel) ?_
      walk_at "rd"
      exact .inr ⟨z, rfl, k⟩
    · walk_at "rd"
      exact .inl ⟨i, rfl, log_ok i0 i1, k⟩
    · walk_at "rd"
      refine isi_tupA ht (b := true) (by decide +kernel) ?_
      walk_at "rd"
      refine lc_tupYv (xs := xs.map V.int) (ys := xs.map fun i => V.str (numS i)) rfl ht (by simp) (by rw [List.length_map]; omega) (fun j x y H1 hj hy s1 Q' q => ?_) (fun D H1 hD s1 h1 => ?_)
      · rw [List.getElem?_map] at hj hy
        obtain ⟨i, hi, rfl⟩ := Option.map_eq_some_iff.mp hj
        rw [hi] at hy
        cases hy
        have hm := hx i (List.mem_of_getElem? hi)
        exact ⟨_, rfl, .inl ⟨i, rfl, log_ok hm.1 hm.2, q H1 Stp.refl⟩⟩
      · refine ⟨D, rfl, xs.map numS, .inl (.inl (.inl (by rw [h1, List.map_map]; rfl))), ?_, k H1 s1⟩
        have a4 : ∀ p ∈ xs.map numS, p.length ≤ 4 := by
          intro p hp
          obtain ⟨i, hi, rfl⟩ := List.mem_map.mp hp
          rw [len_tl, tl_numS]
          exact numT_len (hx i hi).1 (hx i hi).2
        have := sum_len a4
        have h1 : (Str.ofString ",").length = 1 := by rw [len_tl, tl_com]; rfl
        rw [h1]
        rw [List.length_map] at this ⊢
        omega
def sp_row_of (K : PySem.W.Frag) : Sp := fun vs H Q _ => ∃ (a : Addr) (d : DD), vs = [.ref a] ∧ d.at K H a ∧ Good d ∧ ∀ H', Stp [] H H' → Q (.str (rowTxt d)) H'
theorem sc_row_of : FnScope ["deed", "part"] ["deed"] (defScope s_row_of) := ⟨rfl, rfl, rfl, by decide +kernel, rfl, by decide +kernel, by decide +kernel⟩
theorem ok_row_of {f : Addr} {fd : FuncData} (F : Fun K "row_of" "row_of" s_row_of f fd) (G : OwnF P w K mg base "word_of" 1 ["part"] (sp_word_of K)) : FnOk P w K mg base CX0 2 f fd ["deed"] (sp_row_of K) := by
  refine F.ok sc_row_of (fun vs H Q E h => ?_) (fun cdv A outer s H vs Q E hr h => ?_)
  · obtain ⟨a, d, rfl, _⟩ := h
    rfl
  · obtain ⟨a, d, rfl, hd, g, k⟩ := h
    have nd := sc_row_of.nd
    refine ⟨_, pss_one (ps_ret (pe_join pe_str (pe_lc (own := [("part", 1)]) (te := tCall (sp_word_of K) [] E0 (tCons (tVar 1) tNil)) rfl nd (pi_tup (pv 0)) (blkOk_by (N := ["deed", "part"]) (sc := defScope s_row_of) (by decide +kernel))
      (fun _ _ _ _ _ => pg_name (i := 1) nd rfl (.inl rfl)) (fun _ _ _ _ _ => pts_nil) (fun _ _ _ _ _ => p_call G hr (pa_cons (pv 1) pa_nil))))), ?_⟩
    obtain ⟨vs, ht, hp⟩ := hd
    have hlen := hp.length
    have h5 := (w_ne g.mem).2.2
    walk_at "rd"
    refine lc_tupYv (xs := .str d.w :: vs) (ys := (d.w :: d.rs.map rvTxt).map V.str) rfl ht (by simp [hlen]) (by simp; omega) (fun j x y H1 hj hy s1 Q' q => ?_) (fun D H1 hD s1 h1 => ?_)
    · cases j with
      | zero =>
        cases hj
        cases hy
        exact ⟨_, rfl, _, rfl, .inl ⟨_, rfl, q H1 Stp.refl⟩⟩
      | succ j =>
        have hj' : vs[j]? = some x := hj
        have hy' : ((d.rs.map rvTxt).map V.str)[j]? = some y := hy
        obtain ⟨hjl, _⟩ := List.getElem?_eq_some_iff.mp hj'
        obtain ⟨r, v, hr1, hv1, q1⟩ := pr_get hp j (by omega) hjl
        rw [hv1] at hj'
        cases hj'
        rw [List.map_map, List.getElem?_map, hr1] at hy'
        cases hy'
        have hrm := List.mem_of_getElem? hr1
        refine ⟨_, rfl, _, rfl, ?_⟩
        rcases g.c with ⟨_, ns, e, hn⟩ | ⟨_, n, pl, xs, e, b1, b2, b3, b4⟩
        · rw [e] at hrm
          obtain ⟨i, hi, rfl⟩ := List.mem_map.mp hrm
          have q1' : x = .int i := q1
          have hb := hn i hi
          exact .inr (.inl ⟨i, q1', by omega, by omega, q H1 Stp.refl⟩)
        · rw [e] at hrm
          simp only [List.mem_cons, List.not_mem_nil, or_false] at hrm
          rcases hrm with rfl | rfl | rfl
          · have q1' : x = .int n := q1
            exact .inr (.inl ⟨n, q1', by omega, by omega, q H1 Stp.refl⟩)
          · have q1' : x = .int pl := q1
            exact .inr (.inl ⟨pl, q1', by omega, by omega, q H1 Stp.refl⟩)
          · obtain ⟨t, rfl, htt⟩ := q1
            have htt' : TupAt K H t (xs.map V.int) := by
              have e2 : (xs.map some).map oV = xs.map V.int := by rw [List.map_map]; rfl
              rw [← e2]
              exact htt
            refine .inr (.inr ⟨t, xs, rfl, htt'.st s1, b3.2, b4, fun H2 s2 => ?_⟩)
            have e3 : rvTxt (.inr (xs.map some)) = Txt.join "," (xs.map numS) := by
              show Txt.join "," ((xs.map some).map fun o => numS (o.getD 0)) = _
              rw [List.map_map]
              rfl
            have q2 := q H2 s2
            simp only [Function.comp] at q2
            rw [e3] at q2
            exact q2
    · refine ⟨D, rfl, d.w :: d.rs.map rvTxt, .inl (.inl (.inl h1)), ?_, k H1 s1⟩
      have := sum_len (ps := d.w :: d.rs.map rvTxt) (k := 160) fun p hp => ((row_free g).1 p hp).2
      have hh : (Str.ofString " ").length = 1 := by rw [len_tl, tl_sp]; rfl
      rw [hh]
      have hl6 : (d.w :: d.rs.map rvTxt).length ≤ 6 := by simp; omega
      omega
end
end Mx

namespace Mx
open PySem L2 TL
set_option hygiene false in
local macro_rules | `(tactic| walk_at "rd") => `(tactic| try simp only [L2.start, List.map_cons, List.map_nil, List.length_cons, List.length_nil, Nat.reduceAdd, Nat.reduceSub, Nat.reduceLT, Nat.reduceLeDiff, List.replicate_succ, List.replicate_zero, List.append_nil, List.nil_append, List.cons_append, List.set_cons_zero, List.set_cons_succ, List.getElem?_cons_zero, List.getElem?_cons_succ,
  Option.some.injEq, List.cons.injEq, and_true, true_and, and_assoc, reduceCtorEq, L2.V.int.injEq, L2.V.ref.injEq, L2.V.bl.injEq, L2.V.str.injEq, L2.V.ty.injEq, L2.HO.ins.injEq, L2.HO.lst.injEq, L2.HO.tup.injEq, L2.HO.dK.injEq, exists_eq_left', exists_eq_left, exists_eq_right, exists_eq', exists_eq, exists_and_left, exists_and_right, reduceIte, Bool.false_eq_true, Bool.not_true, Bool.not_false,
  L2.tSeq, L2.tIfS, L2.tRet, L2.tRetN, L2.tNext, L2.tAsg, L2.gName, L2.tVar, L2.tC, L2.tCons, L2.tNil, L2.tCB, L2.tOp, L2.tUn, L2.tTup, L2.tLst, L2.tB, L2.tOr, L2.tAnd, L2.tNot, L2.tAndV, L2.tOrV, L2.tNotV, L2.tIf, L2.tTest, L2.tChain, L2.rI, L2.rI0, L2.rU, L2.tDrop, L2.tNever, L2.tCall, L2.tMeth, L2.tMake, L2.rGcd, L2.tFld, L2.sFld, L2.sFldAug, Mx.sFldA, Mx.sFldAugA, L2.rAdd, L2.rSub, L2.rEq, L2.rNe, L2.tDGet, L2.tDIn, L2.tDNotIn, L2.sDPut,
  Mx.isi_int_bool, Mx.isi_int_int, Mx.isi_int_tuple, Mx.isi_int_list, Mx.isi_int_str, Mx.scal_int, Mx.scal_str, Mx.scal_bl, Mx.ofString_inj, Mx.ofString_beq, Mx.lk_cons, Mx.pf_nil, Mx.pf_cons, Mx.sz1, Mx.sz2, List.lookup_nil, String.reduceEq, decide_true, decide_false, decide_eq_true_eq, Int.natAbs_natCast, L2.upd_same, L2.upd_upd, L2.cxOf, L2.gSub, L2.tPar, L2.gCons, L2.gNil, L2.tSl, L2.tPart, L2.rSlL, L2.gStar1, L2.tKGet2, L2.tNoPart, L2.tM1])
set_option hygiene false in
local macro_rules | `(tactic| walk_at "rds") => `(tactic| try simp only [L2.start, List.map_cons, List.map_nil, List.length_cons, List.length_nil, Nat.reduceAdd, Nat.reduceSub, Nat.reduceLT, Nat.reduceLeDiff, List.replicate_succ, List.replicate_zero, List.append_nil, List.nil_append, List.cons_append, List.set_cons_zero, List.set_cons_succ, List.getElem?_cons_zero, List.getElem?_cons_succ,
  Option.some.injEq, List.cons.injEq, and_true, true_and, and_assoc, reduceCtorEq, L2.V.int.injEq, L2.V.ref.injEq, L2.V.bl.injEq, L2.V.str.injEq, L2.V.ty.injEq, L2.HO.ins.injEq, L2.HO.lst.injEq, L2.HO.tup.injEq, L2.HO.dK.injEq, exists_eq_left', exists_eq_left, exists_eq_right, exists_eq', exists_eq, exists_and_left, exists_and_right, reduceIte, Bool.false_eq_true, Bool.not_true, Bool.not_false,
  L2.tSeq, L2.tIfS, L2.tRet, L2.tRetN, L2.tNext, L2.tAsg, L2.gName, L2.tVar, L2.tC, L2.tCons, L2.tNil, L2.tCB, L2.tOp, L2.tUn, L2.tTup, L2.tLst, L2.tB, L2.tOr, L2.tAnd, L2.tNot, L2.tAndV, L2.tOrV, L2.tNotV, L2.tIf, L2.tTest, L2.tChain, L2.rI, L2.rI0, L2.rU, L2.tDrop, L2.tNever, L2.tCall, L2.tMeth, L2.tMake, L2.rGcd, L2.tFld, L2.sFld, L2.sFldAug, Mx.sFldA, Mx.sFldAugA, L2.rAdd, L2.rSub, L2.rEq, L2.rNe, L2.tDGet, L2.tDIn, L2.tDNotIn, L2.sDPut,
  Mx.isi_int_bool, Mx.isi_int_int, Mx.isi_int_tuple, Mx.isi_int_list, Mx.isi_int_str, Mx.scal_int, Mx.scal_str, Mx.scal_bl, Mx.ofString_inj, Mx.ofString_beq, Mx.lk_cons, Mx.pf_nil, Mx.pf_cons, Mx.sz1, Mx.sz2, List.lookup_nil, String.reduceEq, decide_true, decide_false, decide_eq_true_eq, Int.natAbs_natCast, L2.upd_same, L2.upd_upd, L2.cxOf, L2.gSub, L2.tPar, L2.gCons, L2.gNil, L2.tSl, L2.tPart, L2.rSlL, L2.gStar1, L2.tKGet2, L2.tNoPart, L2.tM1, *])

section
variable {P : Program} {w : World} {K : PySem.W.Frag} {mg : Str → Option Value} {base : Heap}
/-! ### rows read -/
def sp_number_of : Sp := fun vs H Q _ => ∃ z : Str, vs = [.str z] ∧ z.length ≤ 99990 ∧ ∀ H', Stp [] H H' → Q (oV (numO z)) H'
def rInSign : R2 := fun x y H Q => ∃ (c : Nat) (z : Str), x = .str ⟨#[c]⟩ ∧ y = .str z ∧ Q (.bl (decide (c ∈ z.cps.toList))) H
theorem sc_number_of : FnScope ["word", "figures", "number", "figure"] ["word"] (defScope s_number_of) := ⟨rfl, rfl, rfl, by decide +kernel, rfl, by decide +kernel, by decide +kernel⟩
theorem ok_number_of {f : Addr} {fd : FuncData} (F : Fun K "number_of" "number_of" s_number_of f fd) (B : Blt mg) {tF : Tok} (hF : mg "FIGURES" = some (.str "0123456789" tF)) : FnOk P w K mg base CX0 1 f fd ["word"] sp_number_of := by
  refine F.ok sc_number_of (fun vs H Q E h => ?_) (fun cdv A outer s H vs Q E hr h => ?_)
  · obtain ⟨z, rfl, _⟩ := h
    rfl
  · obtain ⟨z, rfl, hz, k⟩ := h
    have nd := sc_number_of.nd
    refine ⟨_, pss_cons (ps_set (i := 1) nd rfl (.inl rfl) (pe_m1 PySem.F.slot_str_removeprefix PySem.F.type_str_removeprefix mt_removeprefix (pv 0) pe_str))
      (pss_cons (ps_if (PW.pt (pw_or (pt_not (pt_chain op_le op_le pe_int (pe_callB call_len_str (by rfl) B.len PySem.boot_len (pa_cons (pv 1) pa_nil)) pe_int)) (pw_or1 (pt_not (pt_val (pe_callB (cr_all rfl) (by rfl) B.all PyProof.Rows.boot_all (pa_cons (pe_lc (own := [("figure", 3)]) (te := tOp rInSign (tVar 3) (tC (.str "0123456789"))) rfl nd (pi_str (pv 1)) (blkOk_by (N := ["word", "figures", "number", "figure"]) (sc := defScope s_number_of) (by decide +kernel))
      (fun _ _ _ _ _ => pg_name (i := 3) nd rfl (.inl rfl)) (fun _ _ _ _ _ => pts_nil) (fun _ _ _ _ _ => pe_cmpR op_in_sign (pv 3) (pe_glob (v := .str "0123456789") (by rfl) hF ⟨_, rfl⟩) (by rfl))) pa_nil))))))) (pss_one (ps_ret pe_non)) pss_nil)
      (pss_cons (ps_set (i := 2) nd rfl (.inl rfl) (pe_callTy call_int_str (by rfl) B.int PyProof.Rows.boot_int (pa_cons (pv 0) pa_nil)))
      (pss_one (ps_ret (pe_ifExp (pt_cmpR op_eq (pe_callTy call_strA (by rfl) B.str PyProof.Rows.boot_str (pa_cons (pv 2) pa_nil)) (pv 0) (nomark _)) (pv 2) pe_non))))), ?_⟩
    have hfl := figs_len (tl z)
    have hzl := len_tl z
    have hsz : (99990 : Nat) ≤ sizeLine := by decide
    generalize hfg : Txt.removeprefix z (Str.ofString "-") = fg
    have htf : tl fg = figs (tl z) := by rw [← hfg]; exact tl_noPre z
    have hgl : fg.length = (figs (tl z)).length := by rw [len_tl, htf]
    walk_at "rd"
    refine ⟨by omega, ?_⟩
    rw [hfg]
    refine ⟨by omega, ?_⟩
    by_cases hk : 1 ≤ (figs (tl z)).length ∧ (figs (tl z)).length ≤ 3
    · rw [if_pos (by omega)]
      rw [decide_eq_true (show ((fg.length : Nat) : Int) ≤ 3 by omega)]
      walk_at "rd"
      refine lc_strYv (z := fg) (ys := (figs (tl z)).map fun c => V.bl (isFig c)) rfl (by rw [List.length_map, htf]) (by rw [htf]; omega) (fun j c y H1 hj hy s1 Q' q => ?_) (fun D H1 hD s1 h1 => ?_)
      · rw [htf] at hj
        rw [List.getElem?_map, hj] at hy
        cases hy
        refine ⟨_, rfl, c, _, rfl, rfl, ?_⟩
        rw [fig_in]
        exact q H1 Stp.refl
      · refine ⟨D, (figs (tl z)).map isFig, rfl, .inl (.inl (by rw [h1, List.map_map]; rfl)), ?_⟩
        have ea : ((figs (tl z)).map isFig).all id = (figs (tl z)).all isFig := by rw [List.all_map]; rfl
        rw [ea]
        cases hall : (figs (tl z)).all isFig with
        | false =>
          walk_at "rd"
          have e : numO z = none := by
            unfold numO okF
            rw [hall, Bool.and_false, if_neg (by decide)]
          rw [show V.non = oV (numO z) from by rw [e]; rfl]
          exact k H1 s1
        | true =>
          have hok : okF (tl z) = true := by
            unfold okF
            rw [hall, decide_eq_true hk]
            rfl
          have hb := okF_le hok
          walk_at "rd"
          refine ⟨_, int_okF hok, by omega, .inl ⟨_, rfl, log_ok hb.1 hb.2, rfl, ?_⟩⟩
          have hcmp : (V.str (numS (valF (tl z))) = V.str z) ↔ numT (valF (tl z)) = tl z := by
            rw [← tl_numS]
            constructor
            · intro e
              injection e with e'
              exact congrArg tl e'
            · intro e
              rw [ext_tl e]
          have kk := k H1 s1
          unfold numO at kk
          rw [if_pos hok] at kk
          by_cases he : numT (valF (tl z)) = tl z
          · rw [if_pos he] at kk
            rw [if_pos (hcmp.mpr he)]
            exact kk
          · rw [if_neg he] at kk
            rw [if_neg (fun q => he (hcmp.mp q))]
            exact kk
    · have e : numO z = none := by
        unfold numO okF
        rw [decide_eq_false hk, Bool.false_and, if_neg (by decide)]
      have kk := k H Stp.refl
      rw [e] at kk
      by_cases h1 : 1 ≤ (figs (tl z)).length
      · rw [if_pos (by omega)]
        rw [decide_eq_false (show ¬ ((fg.length : Nat) : Int) ≤ 3 by omega)]
        walk_at "rd"
        exact kk
      · rw [if_neg (by omega)]
        exact kk
def sp_deed_of (K : PySem.W.Frag) : Sp := fun vs H Q _ => ∃ z : Str, vs = [.str z] ∧ z.length ≤ 99980 ∧ ∀ H' p, Stp [] H H' → H p = none → (rdRow z).at K H' p → Q (.ref p) H'
theorem sc_deed_of : FnScope ["row", "words", "parts", "word"] ["row"] (defScope s_deed_of) := ⟨rfl, rfl, rfl, by decide +kernel, rfl, by decide +kernel, by decide +kernel⟩
theorem pr_inl {H : Hp} : ∀ ws : List Str, Paired (RVat K H) (ws.map fun w => (Sum.inl (numO w) : RV)) (ws.map fun w => oV (numO w))
  | [] => .nil
  | _ :: r => .cons rfl (pr_inl r)
theorem ok_deed_of {f : Addr} {fd : FuncData} (F : Fun K "deed_of" "deed_of" s_deed_of f fd) (B : Blt mg) (G : OwnF P w K mg base "number_of" 1 ["word"] sp_number_of) : FnOk P w K mg base CX0 2 f fd ["row"] (sp_deed_of K) := by
  refine F.ok sc_deed_of (fun vs H Q E h => ?_) (fun cdv A outer s H vs Q E hr h => ?_)
  · obtain ⟨z, rfl, _⟩ := h
    rfl
  · obtain ⟨z, rfl, hz, k⟩ := h
    have nd := sc_deed_of.nd
    refine ⟨_, pss_cons (ps_set (i := 1) nd rfl (.inl rfl) (pe_split (pv 0) pe_str))
      (pss_cons (ps_setLc (i := 2) (own := [("word", 3)]) (te := tCall sp_number_of [] E0 (tCons (tVar 3) tNil)) rfl nd rfl rfl (sw_true rfl rfl rfl (by decide +kernel)) (pi_list (pe_slice sl_list (pv 1) (po_some pe_int) po_none)) (blkOk_by (N := ["row", "words", "parts", "word"]) (sc := defScope s_deed_of) (by decide +kernel)) (fun _ _ _ _ _ => pg_name (i := 3) nd rfl (.inl rfl)) (fun _ _ _ _ _ => pts_nil) (fun _ _ _ _ _ => p_call G hr (pa_cons (pv 3) pa_nil)))
      (pss_cons (ps_if (PW.pt (pw_and (pt_cmpR op_eq (pe_ix ix_list (pv 1) pe_int (fun _ _ => rfl)) pe_str (nomark _)) (pw_and1 (pt_cmpR op_eq (pe_callB call_len_seq (by rfl) B.len PySem.boot_len (pa_cons (pv 2) pa_nil)) pe_int (nomark _)))))
        (pss_one (ps_asg (pe_callTy call_tuple_of (by rfl) B.tuple PyProof.Rows.boot_tuple (pa_cons (pe_lc (own := [("word", 3)]) (te := tCall sp_number_of [] E0 (tCons (tVar 3) tNil)) rfl nd (pi_list (pe_split (pe_ix ix_list (pv 1) pe_int (fun _ _ => rfl)) pe_str)) (blkOk_by (N := ["row", "words", "parts", "word"]) (sc := defScope s_deed_of) (by decide +kernel)) (fun _ _ _ _ _ => pg_name (i := 3) nd rfl (.inl rfl)) (fun _ _ _ _ _ => pts_nil) (fun _ _ _ _ _ => p_call G hr (pa_cons (pv 3) pa_nil))) pa_nil)) (pg_sub (pv 2) pe_int set_list))) pss_nil)
      (pss_one (ps_ret (pe_tup (pa_cons (pe_ix ix_list (pv 1) pe_int (fun _ _ => rfl)) (StX.pa_star (pv 2) pa_nil))))))), ?_⟩
    have hsl : (100000 : Nat) ≤ sizeLine := by decide
    have hsb := split_bound (x := z) (y := " ") (s := 32) tl_sp (by decide +kernel)
    have hne := split_ne (x := z) (y := " ") (s := 32) tl_sp (by decide +kernel)
    have kk : ∀ W : List Str, Txt.split z " " = W → ∀ H' p, Stp [] H H' → H p = none → (⟨W.headD Str.empty, rdParts W⟩ : DD).at K H' p → Q (.ref p) H' := fun W e => by
      subst e
      exact k
    clear k
    generalize hW : Txt.split z " " = W at *
    have kk := kk W rfl
    cases W with
    | nil => exact absurd rfl hne
    | cons w0 ws =>
    simp only [List.length_cons, List.mem_cons, forall_eq_or_imp] at hsb
    walk_at "rd"
    refine ⟨by rw [len_tl, tl_sp]; rfl, by omega, fun p1 hp1 => ?_⟩
    have hW' : Txt.split z (Str.ofString " ") = w0 :: ws := hW
    rw [hW']
    have s1 := Stp.new (o := .lst ((w0 :: ws).map V.str)) hp1
    have e1 : upd H p1 (.lst ((w0 :: ws).map V.str)) p1 = some (.lst ((w0 :: ws).map V.str)) := upd_same
    generalize upd H p1 _ = H1 at *
    have hws : ∀ x ∈ ws, x.length ≤ 99980 := fun x hx => Nat.le_trans (hsb.2.2 x hx) hz
    refine lc_lstYm (xs := ws.map V.str) (ys := ws.map fun w => oV (numO w)) (fun R hR => ?_) (by simp) (by rw [List.length_map]; omega) (fun j x y H2 hj hy s2 Q' q => ?_) (fun D H2 hD s2 h2 => ?_)
    · walk_at "rd"
      refine ⟨_, .inl (.inl e1), fun p2 hp2 => ?_⟩
      rw [cut_1]
      exact hR _ _ upd_same (Stp.new hp2)
    · rw [List.getElem?_map] at hj hy
      obtain ⟨u, hu, rfl⟩ := Option.map_eq_some_iff.mp hj
      rw [hu] at hy
      cases hy
      exact ⟨_, rfl, u, rfl, by have := hws u (List.mem_of_getElem? hu); omega, q⟩
    have e12 := s2.keep _ _ e1 (by simp)
    have hDp : D ≠ p1 := (ne_of_none e1 hD).symm
    have hD0 : H D = none := s1.free hD (by simp)
    have s02 := s1.trans s2
    refine ixL (.inl (.inl e12)) (x := .str w0) at0 ⟨rfl, ?_⟩
    have fin : ∀ H3 (vs : List V), Stp [D] H H3 → H3 p1 = some (.lst ((w0 :: ws).map V.str)) → H3 D = some (.lst vs) → vs.length ≤ 99990 → (∀ p H4, Stp [D] H3 H4 ∨ Stp [] H3 H4 → H3 p = none → Paired (RVat K H4) (rdParts (w0 :: ws)) vs) →
        rIxL K (.ref p1) (.int 0) H3 fun x_6 H1 => StX.tStar K (tVar 2) tNil [some (.str z), some (.ref p1), some (.ref D), none] H1 fun xs H2 => xs.length + 1 ≤ sizeLine ∧ ∀ (p : Addr), H2 p = none → Q (.ref p) (upd H2 p (.tup (x_6 :: xs))) := by
      intro H3 vs s3 g1 g2 hl hp
      refine ixL (.inl (.inl g1)) (x := .str w0) at0 ⟨_, rfl, D, vs, rfl, .inr (.inl (.inl g2)), ?_⟩
      show (vs ++ []).length + 1 ≤ sizeLine ∧ ∀ (p : Addr), H3 p = none → Q (.ref p) (upd H3 p (.tup (.str w0 :: (vs ++ []))))
      rw [List.append_nil]
      refine ⟨by omega, fun p hp3 => ?_⟩
      have s4 := Stp.new (o := .tup (.str w0 :: vs)) hp3
      refine kk _ p ((s3.trans s4).subN fun b hb => ?_) (s3.free hp3 (by simpa using (ne_of_none g2 hp3).symm)) ⟨vs, .inl upd_same, hp p _ (.inr s4) hp3⟩
      simp only [List.append_nil, List.mem_singleton] at hb
      subst hb
      exact .inr hD0
    have plain : ¬ (w0 = "parcel" ∧ ws.length = 3) → rdParts (w0 :: ws) = ws.map fun w => .inl (numO w) := fun h => by
      unfold rdParts
      exact if_neg h
    by_cases hw : w0 = "parcel"
    · rw [if_pos (by rw [hw])]
      refine ⟨D, rfl, _, .inl (.inl (.inl h2)), ?_⟩
      rw [List.length_map]
      by_cases h3 : ws.length = 3
      · rw [if_pos (by omega)]
        obtain ⟨wa, wb, wc, rfl⟩ : ∃ a b c, ws = [a, b, c] := by
          match ws, h3 with
          | [a, b, c], _ => exact ⟨a, b, c, rfl⟩
        have hcb := split_bound (x := wc) (y := ",") (s := 44) tl_com (by decide +kernel)
        have hcl := hws wc (by simp)
        refine lc_lstYm (xs := (Txt.split wc ",").map V.str) (ys := (Txt.split wc ",").map fun w => oV (numO w)) (fun R hR => ?_) (by simp) (by rw [List.length_map]; omega) (fun j x y H3 hj hy s3 Q' q => ?_) (fun D2 H3 hD2 s3 h3 => ?_)
        · walk_at "rd"
          refine ixL (.inl (.inl e12)) (x := .str wc) rfl ?_
          refine ⟨⟨_, rfl⟩, _, rfl, (by rw [len_tl, tl_com]; rfl), (by omega), fun p2 hp2 => ?_⟩
          exact hR _ _ upd_same (Stp.new hp2)
        · rw [List.getElem?_map] at hj hy
          obtain ⟨u, hu, rfl⟩ := Option.map_eq_some_iff.mp hj
          rw [hu] at hy
          cases hy
          exact ⟨_, rfl, u, rfl, by have := hcb.2 u (List.mem_of_getElem? hu); omega, q⟩
        refine ⟨D2, rfl, _, .inl ⟨.inl (.inl h3), fun l hl => ?_⟩⟩
        have hD3 := s3.keep _ _ h2 (by simp)
        have e13 := s3.keep _ _ e12 (by simp)
        have s4 := Stp.new (o := .tup ((Txt.split wc ",").map fun w => oV (numO w))) hl
        have hD4 := s4.keep _ _ hD3 (by simp)
        have e14 := s4.keep _ _ e13 (by simp)
        have hl4 : upd H3 l (.tup ((Txt.split wc ",").map fun w => oV (numO w))) l = _ := upd_same
        generalize upd H3 l _ = H4 at *
        refine setL hD4 (j := 2) rfl fun H5 g5 s5 => ?_
        refine fin H5 _ ((s02.trans (s3.trans (s4.trans s5))).sub (by simp)) (s5.keep _ _ e14 (by simpa using hDp.symm)) g5 (by show 3 ≤ 99990; decide) fun p H6 s6 _ => ?_
        have e : rdParts (w0 :: [wa, wb, wc]) = [.inl (numO wa), .inl (numO wb), .inr ((Txt.split wc ",").map numO)] := by
          unfold rdParts
          exact if_pos ⟨hw, rfl⟩
        rw [e]
        have ht6 : TupAt K H6 l (((Txt.split wc ",").map numO).map oV) := by
          rw [List.map_map]
          have := s5.tup _ _ hl4
          rcases s6 with s6 | s6
          · exact .inl (s6.tup _ _ this)
          · exact .inl (s6.tup _ _ this)
        exact .cons rfl (.cons rfl (.cons ⟨l, rfl, ht6⟩ .nil))
      · rw [if_neg (by omega)]
        refine fin H2 _ (s02.sub (by simp)) e12 h2 (by rw [List.length_map]; omega) fun p H6 s6 _ => ?_
        rw [plain fun q => h3 q.2]
        exact pr_inl ws
    · rw [if_neg (fun q => hw (by injection q))]
      refine fin H2 _ (s02.sub (by simp)) e12 h2 (by rw [List.length_map]; omega) fun p H6 s6 _ => ?_
      rw [plain fun q => hw q.1]
      exact pr_inl ws
end
end Mx

namespace Mx
open PySem L2 TL
/-! ### signs -/
theorem all_joinL {P : Nat → Prop} {S : List Nat} (hS : ∀ c ∈ S, P c) : ∀ {ps : List (List Nat)}, (∀ p ∈ ps, ∀ c ∈ p, P c) → ∀ c ∈ joinL S ps, P c
  | [], _ => by simp [joinL]
  | [p], h => h p (by simp)
  | p :: q :: r, h => by
    show ∀ c ∈ p ++ (S ++ joinL S (q :: r)), P c
    intro c hc
    rcases List.mem_append.mp hc with hc | hc
    · exact h p (by simp) c hc
    · rcases List.mem_append.mp hc with hc | hc
      · exact hS c hc
      · exact all_joinL hS (fun z hz => h z (List.mem_cons_of_mem _ hz)) c hc
theorem all_join {P : Nat → Prop} {y : Str} (hy : ∀ c ∈ tl y, P c) {ps : List Str} (h : ∀ p ∈ ps, ∀ c ∈ tl p, P c) : ∀ c ∈ tl (Txt.join y ps), P c := by
  rw [join_eq, tl_join]
  refine all_joinL hy fun p hp => ?_
  obtain ⟨z, hz, rfl⟩ := List.mem_map.mp hp
  exact h z hz
theorem num_small (i : Int) : ∀ c ∈ tl (numS i), c < 128 := by
  rw [tl_numS]
  intro c hc
  have hd := fun n => numL_digits n
  unfold numT at hc
  split at hc
  · rcases List.mem_cons.mp hc with rfl | hc
    · decide
    · have := hd _ c hc; omega
  · have := hd _ c hc; omega
theorem rv_small (r : RV) : ∀ c ∈ tl (rvTxt r), c < 128 := by
  cases r with
  | inl o => exact num_small _
  | inr xs =>
    refine all_join (by rw [tl_com]; decide) fun p hp => ?_
    obtain ⟨o, _, rfl⟩ := List.mem_map.mp hp
    exact num_small _
theorem w_small {d : DD} (h : (d.w, d.rs.length) ∈ partsT) : ∀ c ∈ tl d.w, c < 128 := by
  obtain ⟨w, rs⟩ := d
  have hw : w ∈ partsT.map Prod.fst := List.mem_map.mpr ⟨_, h, rfl⟩
  clear h
  unfold partsT at hw
  simp only [List.map_cons, List.map_nil, List.mem_cons, List.not_mem_nil, or_false] at hw
  rcases hw with rfl | rfl | rfl | rfl | rfl | rfl | rfl <;> (show ∀ c ∈ tl (Str.ofString _), _; rw [tl_ofString]; decide)
theorem row_small {d : DD} (h : (d.w, d.rs.length) ∈ partsT) : ∀ c ∈ tl (rowTxt d), c < 128 := by
  refine all_join (by rw [tl_sp]; decide) fun p hp => ?_
  rcases List.mem_cons.mp hp with rfl | hp
  · exact w_small h
  · obtain ⟨r, _, rfl⟩ := List.mem_map.mp hp
    exact rv_small r
theorem ok_small {x : Str} (h : ∀ c ∈ tl x, c < 128) : PyData.strOk x = true := by
  unfold PyData.strOk
  rw [← Array.all_toList]
  refine List.all_eq_true.mpr fun c hc => ?_
  have := h c hc
  exact decide_eq_true (by omega)
theorem all_ok {ds : List DD} (h : ∀ d ∈ ds, Good d) : PyData.strOk (allTxt ds) = true := by
  refine ok_small (all_join (by rw [tl_nl]; decide) fun p hp => ?_)
  obtain ⟨d, hd, rfl⟩ := List.mem_map.mp hp
  exact row_small (h d hd).mem
theorem lc_relLv {K : PySem.W.Frag} {a : Addr} {xs : List V} {i : Nat} {te : TE} {σ : L2.St} {H1 : Hp} {Q : VK} {j0 : Nat} (R : Hp → Nat → V → Prop) (hj : σ[j0]? = some (some (.ref a))) (ha : H1 a = some (.lst xs)) (hn : xs.length ≤ 100000) (hR : ∀ F' H H' j y, R H j y → Stp F' H H' → R H' j y)
    (he : ∀ (j : Nat) (x : V) (H : Hp), xs[j]? = some x → Stp [] H1 H → ∀ Q' : VK, (∀ y H', R H' j y → Stp [] H H' → Q' y H') → te ((wipe σ [i]).set i (some x)) H Q')
    (k : ∀ D H' ys, H1 D = none → Stp [] H1 H' → H' D = some (.lst ys) → Paired (R H') (List.range xs.length) ys → Q (.ref D) H') : tLc (iList K (tVar j0)) (gName i) tYes te [i] σ H1 Q := by
  refine ⟨_, hj, a, rfl, ⟨_, .inl (.inl ha)⟩, ?_⟩
  exact lc_rel (H9 := H1) (i := i) (tt := tYes) (te := te) (σ := σ) (Q := Q) (walk_list (K := K) (a := a) (xs := xs)) (F := []) (Z := fun _ => True) (R := R) (p := fun _ => true) (YX := fun j x => xs[j]? = some x) trivial (by simp) (fun _ _ _ _ _ _ _ => trivial) (fun H2 _ s => .inl (.inl (s.same _ _ ha))) hR hn (fun j H2 x H3 hj h => h)
    (fun j x H2 _ _ _ s Q' q => q H2 trivial s Stp.refl) (fun j x H2 hj hx _ _ s2 Q' q => he j x H2 hx s2 Q' fun y H' hy s' => q y H' hy trivial (s2.trans s') s') fun D H2 ys hD _ s2 h2 hp => by
      rw [List.filter_eq_self.mpr (fun _ _ => rfl)] at hp
      exact k D H2 ys hD s2 h2 hp
/-- places told one by one -/
theorem refs_of {R : Nat → Addr → Prop} : ∀ {js : List Nat} {ys : List V}, Paired (fun j y => ∃ p, y = .ref p ∧ R j p) js ys → ∃ ps : List Addr, ys = ps.map V.ref ∧ Paired R js ps
  | _, _, .nil => ⟨[], rfl, .nil⟩
  | _, _, .cons h r => by
    obtain ⟨p, rfl, hp⟩ := h
    obtain ⟨ps, rfl, hr⟩ := refs_of r
    exact ⟨p :: ps, rfl, .cons hp hr⟩
theorem pr_of_ix {α β : Type} {R : α → β → Prop} (xs : List α) {ps : List β} (h : Paired (fun (j : Nat) p => ∃ x, xs[j]? = some x ∧ R x p) (List.range xs.length) ps) : Paired R xs ps := by
  have el := h.length
  rw [List.length_range] at el
  have key : ∀ (n : Nat) (us : List α) (qs : List β), us.length = qs.length → (∀ i, i < us.length → ∃ x p, us[i]? = some x ∧ qs[i]? = some p ∧ R x p) → Paired R us qs := by
    intro _ us
    induction us with
    | nil =>
      intro qs hl _
      cases qs with
      | nil => exact .nil
      | cons => cases hl
    | cons u us ih =>
      intro qs hl hx
      cases qs with
      | nil => cases hl
      | cons q qs =>
        obtain ⟨x, p, h1, h2, h3⟩ := hx 0 (by simp)
        cases h1
        cases h2
        exact .cons h3 (ih qs (Nat.succ.inj hl) fun i hi => hx (i + 1) (Nat.succ_lt_succ hi))
  refine key 0 xs ps el fun i hi => ?_
  obtain ⟨j, p, hj, hp, x, hx, q⟩ := pr_get h i (by rw [List.length_range]; exact hi) (by omega)
  rw [List.getElem?_range hi] at hj
  cases hj
  exact ⟨x, p, hx, hp, q⟩
set_option hygiene false in
local macro_rules | `(tactic| walk_at "rd") => `(tactic| try simp only [L2.start, List.map_cons, List.map_nil, List.length_cons, List.length_nil, Nat.reduceAdd, Nat.reduceSub, Nat.reduceLT, Nat.reduceLeDiff, List.replicate_succ, List.replicate_zero, List.append_nil, List.nil_append, List.cons_append, List.set_cons_zero, List.set_cons_succ, List.getElem?_cons_zero, List.getElem?_cons_succ,
  Option.some.injEq, List.cons.injEq, and_true, true_and, and_assoc, reduceCtorEq, L2.V.int.injEq, L2.V.ref.injEq, L2.V.bl.injEq, L2.V.str.injEq, L2.V.ty.injEq, L2.HO.ins.injEq, L2.HO.lst.injEq, L2.HO.tup.injEq, L2.HO.dK.injEq, exists_eq_left', exists_eq_left, exists_eq_right, exists_eq', exists_eq, exists_and_left, exists_and_right, reduceIte, Bool.false_eq_true, Bool.not_true, Bool.not_false,
  L2.tSeq, L2.tIfS, L2.tRet, L2.tRetN, L2.tNext, L2.tAsg, L2.gName, L2.tVar, L2.tC, L2.tCons, L2.tNil, L2.tCB, L2.tOp, L2.tUn, L2.tTup, L2.tLst, L2.tB, L2.tOr, L2.tAnd, L2.tNot, L2.tAndV, L2.tOrV, L2.tNotV, L2.tIf, L2.tTest, L2.tChain, L2.rI, L2.rI0, L2.rU, L2.tDrop, L2.tNever, L2.tCall, L2.tMeth, L2.tMake, L2.rGcd, L2.tFld, L2.sFld, L2.sFldAug, Mx.sFldA, Mx.sFldAugA, L2.rAdd, L2.rSub, L2.rEq, L2.rNe, L2.tDGet, L2.tDIn, L2.tDNotIn, L2.sDPut,
  Mx.isi_int_bool, Mx.isi_int_int, Mx.isi_int_tuple, Mx.isi_int_list, Mx.isi_int_str, Mx.scal_int, Mx.scal_str, Mx.scal_bl, Mx.ofString_inj, Mx.ofString_beq, Mx.lk_cons, Mx.pf_nil, Mx.pf_cons, Mx.sz1, Mx.sz2, List.lookup_nil, String.reduceEq, decide_true, decide_false, decide_eq_true_eq, Int.natAbs_natCast, L2.upd_same, L2.upd_upd, L2.cxOf, L2.gSub, L2.tPar, L2.gCons, L2.gNil, L2.tSl, L2.tPart, L2.rSlL, L2.gStar1, L2.tKGet2, L2.tNoPart, L2.tM1])
set_option hygiene false in
local macro_rules | `(tactic| walk_at "rds") => `(tactic| try simp only [L2.start, List.map_cons, List.map_nil, List.length_cons, List.length_nil, Nat.reduceAdd, Nat.reduceSub, Nat.reduceLT, Nat.reduceLeDiff, List.replicate_succ, List.replicate_zero, List.append_nil, List.nil_append, List.cons_append, List.set_cons_zero, List.set_cons_succ, List.getElem?_cons_zero, List.getElem?_cons_succ,
  Option.some.injEq, List.cons.injEq, and_true, true_and, and_assoc, reduceCtorEq, L2.V.int.injEq, L2.V.ref.injEq, L2.V.bl.injEq, L2.V.str.injEq, L2.V.ty.injEq, L2.HO.ins.injEq, L2.HO.lst.injEq, L2.HO.tup.injEq, L2.HO.dK.injEq, exists_eq_left', exists_eq_left, exists_eq_right, exists_eq', exists_eq, exists_and_left, exists_and_right, reduceIte, Bool.false_eq_true, Bool.not_true, Bool.not_false,
  L2.tSeq, L2.tIfS, L2.tRet, L2.tRetN, L2.tNext, L2.tAsg, L2.gName, L2.tVar, L2.tC, L2.tCons, L2.tNil, L2.tCB, L2.tOp, L2.tUn, L2.tTup, L2.tLst, L2.tB, L2.tOr, L2.tAnd, L2.tNot, L2.tAndV, L2.tOrV, L2.tNotV, L2.tIf, L2.tTest, L2.tChain, L2.rI, L2.rI0, L2.rU, L2.tDrop, L2.tNever, L2.tCall, L2.tMeth, L2.tMake, L2.rGcd, L2.tFld, L2.sFld, L2.sFldAug, Mx.sFldA, Mx.sFldAugA, L2.rAdd, L2.rSub, L2.rEq, L2.rNe, L2.tDGet, L2.tDIn, L2.tDNotIn, L2.sDPut,
  Mx.isi_int_bool, Mx.isi_int_int, Mx.isi_int_tuple, Mx.isi_int_list, Mx.isi_int_str, Mx.scal_int, Mx.scal_str, Mx.scal_bl, Mx.ofString_inj, Mx.ofString_beq, Mx.lk_cons, Mx.pf_nil, Mx.pf_cons, Mx.sz1, Mx.sz2, List.lookup_nil, String.reduceEq, decide_true, decide_false, decide_eq_true_eq, Int.natAbs_natCast, L2.upd_same, L2.upd_upd, L2.cxOf, L2.gSub, L2.tPar, L2.gCons, L2.gNil, L2.tSl, L2.tPart, L2.rSlL, L2.gStar1, L2.tKGet2, L2.tNoPart, L2.tM1, *])

section
variable {P : Program} {w : World} {K : PySem.W.Frag} {mg : Str → Option Value} {base : Heap}
/-! ### written, read -/
/-- deeds at places -/
def DDs (K : PySem.W.Frag) (H : Hp) (ds : List DD) (ps : List Addr) : Prop := Paired (fun (d : DD) p => d.at K H p) ds ps
theorem DDs.st {F : List Addr} {H H' : Hp} {ds : List DD} {ps : List Addr} (h : DDs K H ds ps) (s : Stp F H H') : DDs K H' ds ps := pr_mapR (fun _ _ q => DD.at.st q s) h
theorem DDs.mem {H : Hp} {ds : List DD} {ps : List Addr} (h : DDs K H ds ps) {p : Addr} (hp : p ∈ ps) : ∃ d ∈ ds, d.at K H p := by
  obtain ⟨j, hj, rfl⟩ := List.mem_iff_getElem.mp hp
  have e := h.length
  obtain ⟨d, q, h1, h2, h3⟩ := pr_get h j (by omega) hj
  rw [List.getElem?_eq_getElem hj] at h2
  cases h2
  exact ⟨d, List.mem_of_getElem? h1, h3⟩
def sp_written (K : PySem.W.Frag) : Sp := fun vs H Q _ => ∃ (a : Addr) (ds : List DD) (ps : List Addr), vs = [.ref a] ∧ H a = some (.lst (ps.map V.ref)) ∧ ps.length ≤ 300 ∧ DDs K H ds ps ∧ (∀ d ∈ ds, okD d = true) ∧ ∀ H', Stp [] H H' → Q (.str (allTxt ds)) H'
theorem sc_written : FnScope ["deeds", "deed"] ["deeds"] (defScope s_written) := ⟨rfl, rfl, rfl, by decide +kernel, rfl, by decide +kernel, by decide +kernel⟩
theorem ok_written {f : Addr} {fd : FuncData} (F : Fun K "written" "written" s_written f fd) (GC : OwnF P w K mg base "check_deeds" 4 ["deeds"] (sp_check_deedsR K)) (GR : OwnF P w K mg base "row_of" 2 ["deed"] (sp_row_of K)) : FnOk P w K mg base CX0 5 f fd ["deeds"] (sp_written K) := by
  refine F.ok sc_written (fun vs H Q E h => ?_) (fun cdv A outer s H vs Q E hr h => ?_)
  · obtain ⟨a, ds, ps, rfl, _⟩ := h
    rfl
  · obtain ⟨a, ds, ps, rfl, ha, hl, hd, hk, k⟩ := h
    have nd := sc_written.nd
    have r2 := hr.mono (show 2 ≤ 4 by decide)
    refine ⟨_, pss_cons (ps_expr (p_call GC hr (pa_cons (pv 0) pa_nil)))
      (pss_one (ps_ret (pe_join pe_str (pe_lc (own := [("deed", 1)]) (te := tCall (sp_row_of K) [] E0 (tCons (tVar 1) tNil)) rfl nd (pi_list (pv 0)) (blkOk_by (N := ["deeds", "deed"]) (sc := defScope s_written) (by decide +kernel))
      (fun _ _ _ _ _ => pg_name (i := 1) nd rfl (.inl rfl)) (fun _ _ _ _ _ => pts_nil) (fun _ _ _ _ _ => p_call GR r2 (pa_cons (pv 1) pa_nil)))))), ?_⟩
    have hlen := hd.length
    walk_at "rd"
    refine ⟨a, ps, rfl, ha, hl, fun p hp => ?_, fun H1 s1 => ?_⟩
    · obtain ⟨d, hdm, hda⟩ := hd.mem hp
      exact ⟨d, hda, hk d hdm⟩
    have hd1 := hd.st s1
    walk_at "rd"
    refine lc_lstYv (xs := ps.map V.ref) (ys := (ds.map rowTxt).map V.str) rfl (s1.same _ _ ha) (by simp [hlen]) (by rw [List.length_map]; omega) (fun j x y H2 hj hy s2 Q' q => ?_) (fun D H2 hD s2 h2 => ?_)
    · rw [List.getElem?_map] at hj
      obtain ⟨p, hp, rfl⟩ := Option.map_eq_some_iff.mp hj
      obtain ⟨hjl, _⟩ := List.getElem?_eq_some_iff.mp hp
      obtain ⟨d, p', h1, h2, h3⟩ := pr_get hd1 j (by omega) hjl
      rw [hp] at h2
      cases h2
      rw [List.map_map, List.getElem?_map, h1] at hy
      cases hy
      exact ⟨_, rfl, p, d, rfl, h3.st s2, Good.of (hk d (List.mem_of_getElem? h1)), q⟩
    · have a9 : ∀ p ∈ ds.map rowTxt, p.length ≤ 966 := by
        intro p hp
        obtain ⟨d, hd, rfl⟩ := List.mem_map.mp hp
        exact (row_free (Good.of (hk d hd))).2.2.1
      have := sum_len a9
      have h1 : (Str.ofString "\n").length = 1 := by rw [len_tl, tl_nl]; rfl
      refine ⟨D, rfl, ds.map rowTxt, .inl (.inl (.inl h2)), ?_, k H2 ((s1.trans s2).sub (by simp))⟩
      rw [h1]
      rw [List.length_map] at this ⊢
      omega
theorem pe_weak {X : Cx} {e : Expr} {t t' : TE} (h : PE X e t) (imp : ∀ σ H Q, t' σ H Q → t σ H Q) : PE X e t' := ⟨fun pins s σ H Q I q => h.run pins s σ H Q I (imp σ H Q q)⟩
def tRows (z : Str) : TE := fun σ H Q => σ[0]? = some (some (.str z)) ∧ z.length + 2 ≤ sizeLine ∧ ∀ H1 p, Stp [] H H1 → H1 p = some (.lst ((rowsOf z).map V.str)) → Q (.ref p) H1
theorem rows_weak (z : Str) (σ : L2.St) (H : Hp) (Q : VK) (h : tRows z σ H Q) : tIf (tTest (tOp rEq (tVar 0) (tC (.str "")))) (tLst tNil) (tM1 (fun x xs H Q => ∃ a b, x = .str a ∧ xs = [.str b] ∧ (b.length == 0) = false ∧ a.length + 2 ≤ sizeLine ∧ rNewStrs (Txt.split a b) H Q) (tVar 0) (tC (.str "\n"))) σ H Q := by
  obtain ⟨h0, h1, h2⟩ := h
  refine ⟨_, h0, rfl, _, rfl, ?_⟩
  by_cases he : z = Str.ofString ""
  · have er : rowsOf z = [] := by
      unfold rowsOf
      rw [if_pos (he.trans (by rfl))]
    rw [er] at h2
    rw [decide_eq_true (show V.str z = V.str (Str.ofString "") from by rw [he])]
    exact iteT ⟨Nat.zero_le _, fun p hp => h2 _ p (Stp.new hp) upd_same⟩
  · have er : rowsOf z = Txt.split z (Str.ofString "\n") := by
      unfold rowsOf
      rw [if_neg fun q => he (q.trans (by rfl))]
    rw [er] at h2
    rw [decide_eq_false (show ¬ V.str z = V.str (Str.ofString "") from fun q => he (by injection q))]
    refine iteF ⟨_, h0, ⟨_, rfl⟩, z, "\n", rfl, rfl, (by rw [len_tl]; show ((tl (Str.ofString "\n")).length == 0) = false; rw [tl_nl]; rfl), h1, fun p hp => h2 _ p (Stp.new hp) upd_same⟩
def sp_readV (K : PySem.W.Frag) : Sp := fun vs H Q _ => ∃ z : Str, vs = [.str z] ∧ z.length ≤ 1000000 ∧ (rowsOf z).length ≤ 300 ∧ (∀ y ∈ rowsOf z, y.length ≤ 99980 ∧ okD (rdRow y) = true) ∧
  ∀ H' D ps, Stp [] H H' → H D = none → H' D = some (.lst (ps.map V.ref)) → DDs K H' ((rowsOf z).map rdRow) ps → Q (.ref D) H'
theorem sc_read : FnScope ["text", "rows", "deeds", "number", "deed", "row"] ["text"] (defScope s_read) := ⟨rfl, rfl, rfl, by decide +kernel, rfl, by decide +kernel, by decide +kernel⟩
theorem ok_readV {f : Addr} {fd : FuncData} (F : Fun K "read" "read" s_read f fd) (B : Blt mg) {tm : Tok} (hM : mg "MOST_DEEDS" = some (.int 300 tm)) (GD : OwnF P w K mg base "deed_of" 2 ["row"] (sp_deed_of K)) (GI : OwnF P w K mg base "is_deed" 3 ["deed"] (sp_is_deedR K)) : FnOk P w K mg base CX0 4 f fd ["text"] (sp_readV K) := by
  refine F.ok sc_read (fun vs H Q E h => ?_) (fun cdv A outer s H vs Q E hr h => ?_)
  · obtain ⟨z, rfl, _⟩ := h
    rfl
  · obtain ⟨z, rfl, hz, hl, hk, k⟩ := h
    have nd := sc_read.nd
    have r2 := hr.mono (show 2 ≤ 3 by decide)
    refine ⟨_, pss_cons (ps_set (i := 1) nd rfl (.inl rfl) (pe_weak (pe_ifExp (pt_cmpR op_eq (pv 0) pe_str (nomark _)) (pe_lst pa_nil) (pe_split (pv 0) pe_str)) (rows_weak z)))
      (pss_cons (ps_setLc (i := 2) (own := [("row", 5)]) (te := tCall (sp_deed_of K) [] E0 (tCons (tVar 5) tNil)) rfl nd rfl rfl (sw_true rfl rfl rfl (by decide +kernel)) (pi_list (pv 1)) (blkOk_by (N := ["text", "rows", "deeds", "number", "deed", "row"]) (sc := defScope s_read) (by decide +kernel)) (fun _ _ _ _ _ => pg_name (i := 5) nd rfl (.inl rfl)) (fun _ _ _ _ _ => pts_nil) (fun _ _ _ _ _ => p_call GD r2 (pa_cons (pv 5) pa_nil)))
      (pss_cons (ps_for PassesOwn.never rfl (pi_enum (by rfl) B.enumerate (pa_cons (pv 2) pa_nil)) (pg_tup rfl (pgs_cons (pg_name (i := 3) nd rfl (.inl rfl)) (pgs_cons (pg_name (i := 4) nd rfl (.inl rfl)) pgs_nil))) (pss_one (ps_if (PW.pt (pw_or (pt_cmpR op_ge (pv 3) (pe_glob (v := .int 300) (by rfl) hM ⟨_, rfl⟩) (nomark _)) (pw_or1 (pt_not (pt_val (p_call GI hr (pa_cons (pv 4) pa_nil))))))) (pss_one ps_never) pss_nil)))
      (pss_one (ps_ret (pv 2))))), ?_⟩
    have hsl : (1000002 : Nat) ≤ sizeLine := by decide
    refine ⟨rfl, by omega, fun H1 p1 s1 h1 => ?_⟩
    walk_at "rd"
    refine lc_relLv (xs := (rowsOf z).map V.str) (R := fun H j y => ∃ p, y = .ref p ∧ ∃ d, ((rowsOf z).map rdRow)[j]? = some d ∧ d.at K H p) rfl h1 (by rw [List.length_map]; omega) (fun F' H2 H3 j y h s => ?_) (fun j x H2 hj s2 Q' q => ?_) (fun D H2 ys hD s2 h2 hp => ?_)
    · obtain ⟨p, e, d, h3, h4⟩ := h
      exact ⟨p, e, d, h3, h4.st s⟩
    · rw [List.getElem?_map] at hj
      obtain ⟨u, hu, rfl⟩ := Option.map_eq_some_iff.mp hj
      have hm := hk u (List.mem_of_getElem? hu)
      exact ⟨_, rfl, u, rfl, hm.1, fun H3 p s3 hp hd => q _ H3 ⟨p, rfl, _, by rw [List.getElem?_map, hu]; rfl, hd⟩ s3⟩
    obtain ⟨ps, rfl, hps⟩ := refs_of hp
    rw [List.length_map, ← List.length_map (f := rdRow)] at hps
    have hdd : DDs K H2 ((rowsOf z).map rdRow) ps := pr_of_ix _ hps
    have hlen := hdd.length
    rw [List.length_map] at hlen
    have s02 := s1.trans s2
    refine ⟨_, rfl, D, _, rfl, .inl (.inl h2), for_enum (K := K) (a := D) (xs := ps.map V.ref) (fun i σ H3 => ∃ v1 v2, σ = [some (.str z), some (.ref p1), some (.ref D), v1, v2, none] ∧ Stp [] H2 H3) ⟨_, _, rfl, Stp.refl⟩ (fun i σ H3 _ h => ?_) (fun i x σ H3 T hi h hT => ?_) (fun σ H3 h => ?_)⟩
    · obtain ⟨_, _, _, s3⟩ := h
      exact .inl (.inl (s3.keep _ _ h2 (by simp)))
    · obtain ⟨v1, v2, rfl, s3⟩ := h
      rw [List.getElem?_map] at hi
      obtain ⟨p, hn, rfl⟩ := Option.map_eq_some_iff.mp hi
      obtain ⟨d, hdm, hda⟩ := hdd.mem (List.mem_of_getElem? hn)
      obtain ⟨u, hu, rfl⟩ := List.mem_map.mp hdm
      have hok := (hk u hu).2
      have hil := (List.getElem?_eq_some_iff.mp hn).1
      have s4 := Stp.new (o := .tup [.int (i : Nat), .ref p]) hT
      refine ⟨T, _, rfl, .inl (.inl upd_same), rfl, ?_⟩
      walk_at "rd"
      rw [if_neg (show ¬ (300 : Int) ≤ (i : Int) by omega)]
      refine ⟨p, rdRow u, rfl, (hda.st s3).st s4, (okD_len hok).1, (okD_len hok).2, fun H5 s5 => ⟨_, rfl, ?_⟩⟩
      rw [hok]
      refine iteF ?_
      exact ((s3.trans s4).trans s5).sub (by simp)
    · obtain ⟨v1, v2, rfl, s3⟩ := h
      exact ⟨_, rfl, k H3 D ps ((s02.trans s3).sub (by simp)) (s1.free hD (by simp)) (s3.keep _ _ h2 (by simp)) (hdd.st s3)⟩
end
end Mx

namespace Mx
open PySem L2 TL
set_option hygiene false in
local macro_rules | `(tactic| walk_at "rd") => `(tactic| try simp only [L2.start, List.map_cons, List.map_nil, List.length_cons, List.length_nil, Nat.reduceAdd, Nat.reduceSub, Nat.reduceLT, Nat.reduceLeDiff, List.replicate_succ, List.replicate_zero, List.append_nil, List.nil_append, List.cons_append, List.set_cons_zero, List.set_cons_succ, List.getElem?_cons_zero, List.getElem?_cons_succ,
  Option.some.injEq, List.cons.injEq, and_true, true_and, and_assoc, reduceCtorEq, L2.V.int.injEq, L2.V.ref.injEq, L2.V.bl.injEq, L2.V.str.injEq, L2.V.ty.injEq, L2.HO.ins.injEq, L2.HO.lst.injEq, L2.HO.tup.injEq, L2.HO.dK.injEq, exists_eq_left', exists_eq_left, exists_eq_right, exists_eq', exists_eq, exists_and_left, exists_and_right, reduceIte, Bool.false_eq_true, Bool.not_true, Bool.not_false,
  L2.tSeq, L2.tIfS, L2.tRet, L2.tRetN, L2.tNext, L2.tAsg, L2.gName, L2.tVar, L2.tC, L2.tCons, L2.tNil, L2.tCB, L2.tOp, L2.tUn, L2.tTup, L2.tLst, L2.tB, L2.tOr, L2.tAnd, L2.tNot, L2.tAndV, L2.tOrV, L2.tNotV, L2.tIf, L2.tTest, L2.tChain, L2.rI, L2.rI0, L2.rU, L2.tDrop, L2.tNever, L2.tCall, L2.tMeth, L2.tMake, L2.rGcd, L2.tFld, L2.sFld, L2.sFldAug, Mx.sFldA, Mx.sFldAugA, L2.rAdd, L2.rSub, L2.rEq, L2.rNe, L2.tDGet, L2.tDIn, L2.tDNotIn, L2.sDPut,
  Mx.isi_int_bool, Mx.isi_int_int, Mx.isi_int_tuple, Mx.isi_int_list, Mx.isi_int_str, Mx.scal_int, Mx.scal_str, Mx.scal_bl, Mx.ofString_inj, Mx.ofString_beq, Mx.lk_cons, Mx.pf_nil, Mx.pf_cons, Mx.sz1, Mx.sz2, List.lookup_nil, String.reduceEq, decide_true, decide_false, decide_eq_true_eq, Int.natAbs_natCast, L2.upd_same, L2.upd_upd, L2.cxOf, L2.gSub, L2.tPar, L2.gCons, L2.gNil, L2.tSl, L2.tPart, L2.rSlL, L2.rSlT, L2.tNoPart, L2.tM1])
set_option hygiene false in
local macro_rules | `(tactic| walk_at "rds") => `(tactic| try simp only [L2.start, List.map_cons, List.map_nil, List.length_cons, List.length_nil, Nat.reduceAdd, Nat.reduceSub, Nat.reduceLT, Nat.reduceLeDiff, List.replicate_succ, List.replicate_zero, List.append_nil, List.nil_append, List.cons_append, List.set_cons_zero, List.set_cons_succ, List.getElem?_cons_zero, List.getElem?_cons_succ,
  Option.some.injEq, List.cons.injEq, and_true, true_and, and_assoc, reduceCtorEq, L2.V.int.injEq, L2.V.ref.injEq, L2.V.bl.injEq, L2.V.str.injEq, L2.V.ty.injEq, L2.HO.ins.injEq, L2.HO.lst.injEq, L2.HO.tup.injEq, L2.HO.dK.injEq, exists_eq_left', exists_eq_left, exists_eq_right, exists_eq', exists_eq, exists_and_left, exists_and_right, reduceIte, Bool.false_eq_true, Bool.not_true, Bool.not_false,
  L2.tSeq, L2.tIfS, L2.tRet, L2.tRetN, L2.tNext, L2.tAsg, L2.gName, L2.tVar, L2.tC, L2.tCons, L2.tNil, L2.tCB, L2.tOp, L2.tUn, L2.tTup, L2.tLst, L2.tB, L2.tOr, L2.tAnd, L2.tNot, L2.tAndV, L2.tOrV, L2.tNotV, L2.tIf, L2.tTest, L2.tChain, L2.rI, L2.rI0, L2.rU, L2.tDrop, L2.tNever, L2.tCall, L2.tMeth, L2.tMake, L2.rGcd, L2.tFld, L2.sFld, L2.sFldAug, Mx.sFldA, Mx.sFldAugA, L2.rAdd, L2.rSub, L2.rEq, L2.rNe, L2.tDGet, L2.tDIn, L2.tDNotIn, L2.sDPut,
  Mx.isi_int_bool, Mx.isi_int_int, Mx.isi_int_tuple, Mx.isi_int_list, Mx.isi_int_str, Mx.scal_int, Mx.scal_str, Mx.scal_bl, Mx.ofString_inj, Mx.ofString_beq, Mx.lk_cons, Mx.pf_nil, Mx.pf_cons, Mx.sz1, Mx.sz2, List.lookup_nil, String.reduceEq, decide_true, decide_false, decide_eq_true_eq, Int.natAbs_natCast, L2.upd_same, L2.upd_upd, L2.cxOf, L2.gSub, L2.tPar, L2.gCons, L2.gNil, L2.tSl, L2.tPart, L2.rSlL, L2.rSlT, L2.tNoPart, L2.tM1, *])

section
variable {P : Program} {w : World} {K : PySem.W.Frag} {mg : Str → Option Value} {base : Heap}
/-! ### the law's rows -/
theorem cut_1t (x : V) (xs : List V) : cutV (x :: xs) (some 1) none = xs := by rw [cut_1]; rfl
theorem not_whole (x : V) (xs : List V) : ¬ (HT.sIx (x :: xs).length 0 (some 1) = 0 ∧ HT.sIx (x :: xs).length (x :: xs).length none = (x :: xs).length) := by
  intro h
  have e : HT.sIx (x :: xs).length 0 (some 1) = 1 := by
    unfold HT.sIx
    simp
  rw [e] at h
  exact absurd h.1 (by decide)
abbrev NLt : List Str := ["_law_deed", "_law_found", "_law_part", "_law_some", "_law_one"]
def sp_law_text (K : PySem.W.Frag) : Sp := fun vs H Q _ => ∃ (a : Addr) (d : DD), vs = [.ref a] ∧ d.at K H a ∧ Good d ∧ ∀ H', Stp [] H H' → Q (.str (rowTxt d)) H'
theorem sc_law_text : FnScope NLt ["_law_deed"] (defScope s_law_text) := ⟨rfl, rfl, rfl, by decide +kernel, rfl, by decide +kernel, by decide +kernel⟩
/-- numbers with commas between -/
def tJn (K : PySem.W.Frag) (i j0 : Nat) : TE := fun σ H Q => ∃ (t : Addr) (xs : List Int), σ[j0]? = some (some (.ref t)) ∧ i < σ.length ∧ TupAt K H t (xs.map V.int) ∧ xs.length ≤ 32 ∧ (∀ i ∈ xs, -999 ≤ i ∧ i ≤ 999) ∧ ∀ H', Stp [] H H' → Q (.str (Txt.join "," (xs.map numS))) H'
theorem jn_weak (i j0 : Nat) (σ : L2.St) (H : Hp) (Q : VK) (h : tJn K i j0 σ H Q) : tM1 (fun x xs H Q => ∃ a p, ∃ ys : List Str, x = .str a ∧ xs = [.ref p] ∧ (SqL K H p (ys.map V.str) ∨ SqT K H p (ys.map V.str)) ∧
      (ys.map (·.length)).sum + ys.length * a.length ≤ 16777216 ∧ Q (.str (Txt.join a ys)) H) (tC (.str ",")) (tLc (iTup K (tVar j0)) (gName i) tYes (teStr i) [i]) σ H Q := by
  obtain ⟨t, xs, hj, hi, ht, hl, hx, k⟩ := h
  refine ⟨⟨_, rfl⟩, ?_⟩
  refine lc_tupYv (xs := xs.map V.int) (ys := xs.map fun i => V.str (numS i)) hj ht (by simp) (by rw [List.length_map]; omega) (fun j x y H1 hj hy s1 Q' q => ?_) (fun D H1 hD s1 h1 => ?_)
  · rw [List.getElem?_map] at hj hy
    obtain ⟨n, hn, rfl⟩ := Option.map_eq_some_iff.mp hj
    rw [hn] at hy
    cases hy
    have hm := hx n (List.mem_of_getElem? hn)
    refine ⟨_, ?_, .inl ⟨n, rfl, log_ok hm.1 hm.2, q H1 Stp.refl⟩⟩
    rw [List.getElem?_set_self (by simpa [wipe] using hi)]
  · refine ⟨_, D, xs.map numS, rfl, rfl, .inl (.inl (.inl (by rw [h1, List.map_map]; rfl))), ?_, k H1 s1⟩
    have a4 : ∀ p ∈ xs.map numS, p.length ≤ 4 := by
      intro p hp
      obtain ⟨i, hi, rfl⟩ := List.mem_map.mp hp
      rw [len_tl, tl_numS]
      exact numT_len (hx i hi).1 (hx i hi).2
    have := sum_len a4
    have h1 : (Str.ofString ",").length = 1 := by rw [len_tl, tl_com]; rfl
    rw [h1]
    rw [List.length_map] at this ⊢
    omega
/-- the text so far -/
def accT (d : DD) (i : Nat) : Str := ((d.rs.take i).map rvTxt).foldl (fun acc p => acc ++ Str.ofString " " ++ p) d.w
theorem accT_succ {d : DD} {i : Nat} {r : RV} (h : d.rs[i]? = some r) : accT d (i + 1) = accT d i ++ Str.ofString " " ++ rvTxt r := by
  unfold accT
  rw [List.take_add_one, h]
  simp
theorem accT_len {d : DD} (g : Good d) (i : Nat) : (accT d i).length ≤ 966 := by
  unfold accT
  rw [fold_join]
  refine Nat.le_trans (len_join (k := 160) (by rw [tl_sp]; decide) fun p hp => ?_) ?_
  · rcases List.mem_cons.mp hp with rfl | hp
    · exact ((row_free g).1 _ (by simp)).2
    · obtain ⟨r, hr, rfl⟩ := List.mem_map.mp hp
      exact (part_free g (List.mem_of_mem_take hr) (.inl rfl)).2
  · have := (w_ne g.mem).2.2
    rw [List.length_cons, List.length_map, List.length_take]
    show (min i d.rs.length + 1) * 161 ≤ 966
    omega
theorem accT_all (d : DD) : accT d d.rs.length = rowTxt d := by
  unfold accT
  rw [fold_join, List.take_length]
  rfl
theorem ok_law_text {f : Addr} {fd : FuncData} (F : Fun K "_law_text" "_law_text" s_law_text f fd) (B : Blt mg) : FnOk P w K mg base CX0 1 f fd ["_law_deed"] (sp_law_text K) := by
  refine F.ok sc_law_text (fun vs H Q E h => ?_) (fun cdv A outer s H vs Q E hr h => ?_)
  · obtain ⟨a, d, rfl, _⟩ := h
    rfl
  · obtain ⟨a, d, rfl, ⟨vs, ht, hp⟩, g, k⟩ := h
    have nd := sc_law_text.nd
    refine ⟨_, pss_cons (ps_set (i := 1) nd rfl (.inl rfl) (pe_ix ix_tup (pv 0) pe_int (fun _ _ => rfl)))
      (pss_cons (ps_for PassesOwn.never rfl (pi_tup (pe_slice sl_tup (pv 0) (po_some pe_int) po_none)) (pg_name (i := 2) nd rfl (.inl rfl))
        (pss_cons (ps_set (i := 3) nd rfl (.inl rfl) (pe_ifExp (pt_val (b_isi B (pv 2) B.tuple PyProof.Rows.boot_tuple)) (pv 2) (pe_tup (pa_cons (pv 2) pa_nil))))
        (pss_one (ps_set (i := 1) nd rfl (.inl rfl) (pe_op op_add_str (pe_op op_add_str (pv 1) pe_str) (pe_weak (pe_join pe_str (pe_lc (own := [("_law_one", 4)]) (te := teStr 4) rfl nd (pi_tup (pv 3)) (blkOk_by (N := NLt) (sc := defScope s_law_text) (by decide +kernel))
          (fun _ _ _ _ _ => pg_name (i := 4) nd rfl (.inl rfl)) (fun _ _ _ _ _ => pts_nil) (fun _ _ _ _ _ => pe_callTy call_strA (by rfl) B.str PyProof.Rows.boot_str (pa_cons (pv 4) pa_nil)))) (jn_weak (K := K) 4 3)))))))
      (pss_one (ps_ret (pv 1)))), ?_⟩
    have hlen := hp.length
    have h5 := (w_ne g.mem).2.2
    have hs2 : (10000 : Nat) ≤ sizeLine := by decide
    refine ⟨_, rfl, ixT_0 ht ⟨_, rfl, 1, rfl, a, _, rfl, ht.sq, not_whole _ _, fun p hp0 => ?_⟩⟩
    rw [cut_1t]
    have s1 := Stp.new (o := .tup vs) hp0
    have e1 : upd H p (.tup vs) p = some (.tup vs) := upd_same
    have hp1 := pr_mapR (fun _ _ q => RVat.st q s1) hp
    generalize upd H p (.tup vs) = H1 at *
    refine ⟨p, rfl, ⟨_, .inl (.inl e1)⟩, for_tup (K := K) (a := p) (xs := vs) (fun i σ H2 => ∃ v1 v2, σ = [some (.ref a), some (.str (accT d i)), v1, v2, none] ∧ Stp [] H1 H2) ⟨_, _, rfl, Stp.refl⟩ (fun i σ H2 _ h => ?_) (fun i x σ H2 hi h => ?_) (fun σ H2 h => ?_)⟩
    · obtain ⟨_, _, _, s2⟩ := h
      exact .inl (.inl (s2.keep _ _ e1 (by simp)))
    · obtain ⟨v1, v2, rfl, s2⟩ := h
      obtain ⟨hil, _⟩ := List.getElem?_eq_some_iff.mp hi
      obtain ⟨r, v, hr1, hv1, q1⟩ := pr_get hp1 i (by omega) hil
      rw [hv1] at hi
      cases hi
      have hrm := List.mem_of_getElem? hr1
      have hacc := accT_succ hr1
      have hl1 := accT_len g i
      have hl2 := accT_len g (i + 1)
      rw [hacc] at hl2
      have hlt : (accT d i ++ Str.ofString " ").length ≤ 966 := by
        rw [len_tl, tl_append, List.length_append] at hl2
        rw [len_tl]
        omega
      have hcom : (Str.ofString ",").length = 1 := by rw [len_tl, tl_com]; rfl
      have fin : ∀ (H3 : Hp) (o3 : Option V) (t : Addr) (xs : List Int), Stp [] H1 H3 → TupAt K H3 t (xs.map V.int) → xs.length ≤ 32 → (∀ i ∈ xs, -999 ≤ i ∧ i ≤ 999) → Txt.join "," (xs.map numS) = rvTxt r →
          (accT d i).length + (Str.ofString " ").length ≤ sizeLine ∧ tJn K 4 3 [some (.ref a), some (.str (accT d i)), o3, some (.ref t), none] H3 fun y H4 => ∃ j, y = .str j ∧ (accT d i ++ Str.ofString " ").length + j.length ≤ sizeLine ∧ accT d i ++ Str.ofString " " ++ j = accT d (i + 1) ∧ Stp [] H1 H4 := by
        intro H3 o3 t xs s3 h3 hl hx e
        have h1 : (Str.ofString " ").length = 1 := by rw [len_tl, tl_sp]; rfl
        refine ⟨by omega, t, xs, rfl, by show 4 < 5; decide, h3, hl, hx, fun H4 s4 => ⟨_, rfl, ?_, by rw [e, ← hacc], (s3.trans s4).sub (by simp)⟩⟩
        rw [e]
        rw [len_tl, tl_append, List.length_append, ← len_tl, ← len_tl] at hl2
        omega
      have one : ∀ n : Int, r = .inl (some n) → -999 ≤ n → n ≤ 999 → ∃ n : Int, x = .int n ∧ -999 ≤ n ∧ n ≤ 999 ∧ rvTxt r = numS n := fun n e h0 h1 => by
        subst e
        exact ⟨n, q1, h0, h1, rfl⟩
      have cs : (∃ n : Int, x = .int n ∧ -999 ≤ n ∧ n ≤ 999 ∧ rvTxt r = numS n) ∨ (∃ (t : Addr) (xs : List Int), x = .ref t ∧ TupAt K H1 t (xs.map V.int) ∧ xs.length ≤ 32 ∧ (∀ i ∈ xs, -999 ≤ i ∧ i ≤ 999) ∧ Txt.join "," (xs.map numS) = rvTxt r) := by
        rcases g.c with ⟨_, ns, e, hn⟩ | ⟨_, n, pl, xs, e, b1, b2, b3, b4⟩
        · rw [e] at hrm
          obtain ⟨n, hn2, e2⟩ := List.mem_map.mp hrm
          have := hn n hn2
          exact .inl (one n e2.symm (by omega) (by omega))
        · rw [e] at hrm
          simp only [List.mem_cons, List.not_mem_nil, or_false] at hrm
          rcases hrm with e2 | e2 | e2
          · exact .inl (one n e2 (by omega) (by omega))
          · exact .inl (one pl e2 (by omega) (by omega))
          · subst e2
            obtain ⟨t, rfl, htt⟩ := q1
            rw [List.map_map] at htt
            refine .inr ⟨t, xs, rfl, htt, b3.2, b4, ?_⟩
            show _ = Txt.join "," ((xs.map some).map fun o => numS (o.getD 0))
            rw [List.map_map]
            rfl
      rcases cs with ⟨n, rfl, n0, n1, e⟩ | ⟨t, xs, rfl, htt, xl, hx, e⟩
      · show tSeq _ _ _ _ _
        walk_at "rd"
        intro p3 hp3
        have s3 := Stp.new (o := .tup [.int n]) hp3
        exact fin _ _ p3 [n] ((s2.trans s3).sub (by simp)) (.inl upd_same) (by show 1 ≤ 32; decide) (fun i hi => by rw [List.mem_singleton.mp hi]; exact ⟨n0, n1⟩) e.symm
      · show tSeq _ _ _ _ _
        walk_at "rd"
        refine isi_tupA (htt.st s2) (b := true) (by decide +kernel) ?_
        walk_at "rd"
        exact fin _ _ t xs s2 (htt.st s2) xl hx e
    · obtain ⟨v1, v2, rfl, s2⟩ := h
      rw [← hlen, accT_all]
      exact ⟨_, rfl, k H2 ((s1.trans s2).sub (by simp))⟩
end
end Mx

namespace Mx
open PySem L2 TL
/-! ### deeds drawn -/
def manyT : List (Str × Int) := [("add", 5), ("parcel", 2), ("end", 2), ("lead", 3), ("hush", 1), ("wake", 1), ("beat", 0)]
def manyK : List (Key × V) := manyT.map fun p => ((Sum.inr p.1 : Key), V.int p.2)
theorem many_merge : mergeK [] manyK = manyK := by
  simp [manyK, manyT, mergeK, putK, ofString_inj]
theorem many_val {z : Str} {m : Int} (h : (z, m) ∈ manyT) : valV (mergeK [] manyK) (Sum.inr z : Key) = some (.int m) := by
  rw [many_merge]
  unfold manyT at h
  simp only [List.mem_cons, List.not_mem_nil, or_false, Prod.mk.injEq] at h
  rcases h with ⟨rfl, rfl⟩ | ⟨rfl, rfl⟩ | ⟨rfl, rfl⟩ | ⟨rfl, rfl⟩ | ⟨rfl, rfl⟩ | ⟨rfl, rfl⟩ | ⟨rfl, rfl⟩ <;> simp [manyK, manyT, valV, ofString_inj]
def tMany : TE := fun σ H Q => ∃ z m, σ[4]? = some (some (.str z)) ∧ (z, m) ∈ manyT ∧ ∀ H', Stp [] H H' → Q (.int m) H'
theorem many_weak (σ : L2.St) (H : Hp) (Q : VK) (h : tMany σ H Q) : tDGet (tDisp [(tC (.str "add"), tC (.int 5)), (tC (.str "parcel"), tC (.int 2)), (tC (.str "end"), tC (.int 2)), (tC (.str "lead"), tC (.int 3)), (tC (.str "hush"), tC (.int 1)), (tC (.str "wake"), tC (.int 1)), (tC (.str "beat"), tC (.int 0))]) (tVar 4) σ H Q := by
  obtain ⟨z, m, hz, hm, k⟩ := h
  intro p hp
  refine ⟨upd_same, manyK, rfl, by show 7 ≤ 15; decide, ?_⟩
  have s1 := Stp.new (o := .dK []) hp
  have s2 := Stp.put (o := .dK (mergeK [] manyK)) (upd_same (H := H) (a := p) (o := .dK [])) (fun xs z => nomatch z)
  have g : upd (upd H p (.dK [])) p (.dK (mergeK [] manyK)) p = some (.dK (mergeK [] manyK)) := upd_same
  refine ⟨_, hz, p, _, rfl, ?_, k _ ((s1.trans s2).subN fun b hb => .inr (by simp at hb; rw [hb]; exact hp))⟩
  have := DGet.k (k := (Sum.inr z : Key)) g
  rw [many_val hm] at this
  exact this
def wordsL : List V := [.str "add", .str "parcel", .str "parcel", .str "end", .str "lead", .str "hush", .str "wake", .str "beat"]
theorem word_at {c : Int} (h0 : 0 ≤ c) (h1 : c < 8) : ∃ z m, atI wordsL c = some (.str z) ∧ (z, m) ∈ manyT := by
  have : c = 0 ∨ c = 1 ∨ c = 2 ∨ c = 3 ∨ c = 4 ∨ c = 5 ∨ c = 6 ∨ c = 7 := by omega
  rcases this with rfl | rfl | rfl | rfl | rfl | rfl | rfl | rfl
  · exact ⟨"add", 5, rfl, by simp [manyT]⟩
  · exact ⟨"parcel", 2, rfl, by simp [manyT]⟩
  · exact ⟨"parcel", 2, rfl, by simp [manyT]⟩
  · exact ⟨"end", 2, rfl, by simp [manyT]⟩
  · exact ⟨"lead", 3, rfl, by simp [manyT]⟩
  · exact ⟨"hush", 1, rfl, by simp [manyT]⟩
  · exact ⟨"wake", 1, rfl, by simp [manyT]⟩
  · exact ⟨"beat", 0, rfl, by simp [manyT]⟩
theorem many_parts {z : Str} {m : Int} (h : (z, m) ∈ manyT) : (z ≠ "parcel" ∧ 0 ≤ m ∧ m ≤ 5 ∧ (z, m.toNat) ∈ partsT) ∨ (z = "parcel" ∧ m = 2) := by
  unfold manyT at h
  simp only [List.mem_cons, List.not_mem_nil, or_false, Prod.mk.injEq] at h
  rcases h with ⟨rfl, rfl⟩ | ⟨rfl, rfl⟩ | ⟨rfl, rfl⟩ | ⟨rfl, rfl⟩ | ⟨rfl, rfl⟩ | ⟨rfl, rfl⟩ | ⟨rfl, rfl⟩
  · exact .inl ⟨by decide, by decide, by decide, by unfold partsT; simp [ofString_inj]⟩
  · exact .inr ⟨rfl, rfl⟩
  · exact .inl ⟨by decide, by decide, by decide, by unfold partsT; simp [ofString_inj]⟩
  · exact .inl ⟨by decide, by decide, by decide, by unfold partsT; simp [ofString_inj]⟩
  · exact .inl ⟨by decide, by decide, by decide, by unfold partsT; simp [ofString_inj]⟩
  · exact .inl ⟨by decide, by decide, by decide, by unfold partsT; simp [ofString_inj]⟩
  · exact .inl ⟨by decide, by decide, by decide, by unfold partsT; simp [ofString_inj]⟩
/-- a deed of drawn numbers can be -/
theorem ok_plainD {z : Str} {ns : List Int} (hw : z ≠ "parcel") (hm : (z, ns.length) ∈ partsT) (hn : ∀ v ∈ ns, 0 ≤ v ∧ v ≤ 999) : okD ⟨z, ns.map fun i => (Sum.inl (some i) : RV)⟩ = true := by
  unfold okD
  rw [decide_eq_true (by rw [List.length_map]; exact hm), Bool.true_and, if_neg hw, List.all_map]
  refine List.all_eq_true.mpr fun v hv => ?_
  show okN 0 999 (some v) = true
  exact decide_eq_true (hn v hv)
theorem ok_parD {n pl : Int} {xs : List Int} (h1 : 0 ≤ n ∧ n ≤ 999) (h2 : 0 ≤ pl ∧ pl ≤ 999) (h3 : 1 ≤ xs.length ∧ xs.length ≤ 32) (h4 : ∀ v ∈ xs, -999 ≤ v ∧ v ≤ 999) : okD ⟨"parcel", [.inl (some n), .inl (some pl), .inr (xs.map some)]⟩ = true := by
  unfold okD
  rw [decide_eq_true (by show (_, 3) ∈ partsT; unfold partsT; simp), Bool.true_and, if_pos rfl]
  show ((decide (0 ≤ n ∧ n ≤ 999) && (decide (0 ≤ pl ∧ pl ≤ 999) && true)) && (decide (1 ≤ (xs.map some).length ∧ (xs.map some).length ≤ 32) && (xs.map some).all (okN (-999) 999))) = true
  rw [decide_eq_true h1, decide_eq_true h2, decide_eq_true (by rw [List.length_map]; exact h3), List.all_map]
  show (xs.all (okN (-999) 999 ∘ some)) = true
  refine List.all_eq_true.mpr fun v hv => ?_
  show okN (-999) 999 (some v) = true
  exact decide_eq_true (h4 v hv)
/-- t + u, tuples, the left not empty -/
def rCatA (K : PySem.W.Frag) : R2 := fun x y H Q => ∃ a b xs ys, x = .ref a ∧ y = .ref b ∧ TupAt K H a xs ∧ TupAt K H b ys ∧ xs ≠ [] ∧ xs.length + ys.length ≤ sizeLine ∧ ∀ t H', TupAt K H' t (xs ++ ys) → Stp [] H H' → Q (.ref t) H'
theorem op_catA {X : Cx} : OpR X (binaryOp .Add) (rCatA X.K) := by
  intro pins s σ H x y v u Q I rx ry h
  obtain ⟨a, b, xs, ys, e1, e2, ha, hb, hx, hl, k⟩ := h
  refine op_catT pins s σ H x y v u Q I rx ry ⟨a, b, xs, ys, e1, e2, ha.sq, hb.sq, hx, hl, fun e => ?_, fun _ p hp => k p _ (.inl upd_same) (Stp.new hp)⟩
  refine k a H ?_ Stp.refl
  rw [e, List.append_nil]
  exact ha
set_option hygiene false in
local macro_rules | `(tactic| walk_at "rd") => `(tactic| try simp only [L2.start, List.map_cons, List.map_nil, List.length_cons, List.length_nil, Nat.reduceAdd, Nat.reduceSub, Nat.reduceLT, Nat.reduceLeDiff, List.replicate_succ, List.replicate_zero, List.append_nil, List.nil_append, List.cons_append, List.set_cons_zero, List.set_cons_succ, List.getElem?_cons_zero, List.getElem?_cons_succ,
  Option.some.injEq, List.cons.injEq, and_true, true_and, and_assoc, reduceCtorEq, L2.V.int.injEq, L2.V.ref.injEq, L2.V.bl.injEq, L2.V.str.injEq, L2.V.ty.injEq, L2.HO.ins.injEq, L2.HO.lst.injEq, L2.HO.tup.injEq, L2.HO.dK.injEq, exists_eq_left', exists_eq_left, exists_eq_right, exists_eq', exists_eq, exists_and_left, exists_and_right, reduceIte, Bool.false_eq_true, Bool.not_true, Bool.not_false,
  L2.tSeq, L2.tIfS, L2.tRet, L2.tRetN, L2.tNext, L2.tAsg, L2.gName, L2.tVar, L2.tC, L2.tCons, L2.tNil, L2.tCB, L2.tOp, L2.tUn, L2.tTup, L2.tLst, L2.tB, L2.tOr, L2.tAnd, L2.tNot, L2.tAndV, L2.tOrV, L2.tNotV, L2.tIf, L2.tTest, L2.tChain, L2.rI, L2.rI0, L2.rU, L2.tDrop, L2.tNever, L2.tCall, L2.tMeth, L2.tMake, L2.rGcd, L2.tFld, L2.sFld, L2.sFldAug, Mx.sFldA, Mx.sFldAugA, L2.rAdd, L2.rSub, L2.rEq, L2.rNe, L2.tDGet, L2.tDIn, L2.tDNotIn, L2.sDPut,
  Mx.isi_int_bool, Mx.isi_int_int, Mx.isi_int_tuple, Mx.isi_int_list, Mx.isi_int_str, Mx.scal_int, Mx.scal_str, Mx.scal_bl, Mx.ofString_inj, Mx.ofString_beq, Mx.lk_cons, Mx.pf_nil, Mx.pf_cons, Mx.sz1, Mx.sz2, List.lookup_nil, String.reduceEq, decide_true, decide_false, decide_eq_true_eq, Int.natAbs_natCast, L2.upd_same, L2.upd_upd, L2.cxOf, L2.gSub, L2.tPar, L2.gCons, L2.gNil, L2.tSl, L2.tPart, L2.rSlL, L2.rSlT, L2.tNoPart, L2.tM1])
set_option hygiene false in
local macro_rules | `(tactic| walk_at "rds") => `(tactic| try simp only [L2.start, List.map_cons, List.map_nil, List.length_cons, List.length_nil, Nat.reduceAdd, Nat.reduceSub, Nat.reduceLT, Nat.reduceLeDiff, List.replicate_succ, List.replicate_zero, List.append_nil, List.nil_append, List.cons_append, List.set_cons_zero, List.set_cons_succ, List.getElem?_cons_zero, List.getElem?_cons_succ,
  Option.some.injEq, List.cons.injEq, and_true, true_and, and_assoc, reduceCtorEq, L2.V.int.injEq, L2.V.ref.injEq, L2.V.bl.injEq, L2.V.str.injEq, L2.V.ty.injEq, L2.HO.ins.injEq, L2.HO.lst.injEq, L2.HO.tup.injEq, L2.HO.dK.injEq, exists_eq_left', exists_eq_left, exists_eq_right, exists_eq', exists_eq, exists_and_left, exists_and_right, reduceIte, Bool.false_eq_true, Bool.not_true, Bool.not_false,
  L2.tSeq, L2.tIfS, L2.tRet, L2.tRetN, L2.tNext, L2.tAsg, L2.gName, L2.tVar, L2.tC, L2.tCons, L2.tNil, L2.tCB, L2.tOp, L2.tUn, L2.tTup, L2.tLst, L2.tB, L2.tOr, L2.tAnd, L2.tNot, L2.tAndV, L2.tOrV, L2.tNotV, L2.tIf, L2.tTest, L2.tChain, L2.rI, L2.rI0, L2.rU, L2.tDrop, L2.tNever, L2.tCall, L2.tMeth, L2.tMake, L2.rGcd, L2.tFld, L2.sFld, L2.sFldAug, Mx.sFldA, Mx.sFldAugA, L2.rAdd, L2.rSub, L2.rEq, L2.rNe, L2.tDGet, L2.tDIn, L2.tDNotIn, L2.sDPut,
  Mx.isi_int_bool, Mx.isi_int_int, Mx.isi_int_tuple, Mx.isi_int_list, Mx.isi_int_str, Mx.scal_int, Mx.scal_str, Mx.scal_bl, Mx.ofString_inj, Mx.ofString_beq, Mx.lk_cons, Mx.pf_nil, Mx.pf_cons, Mx.sz1, Mx.sz2, List.lookup_nil, String.reduceEq, decide_true, decide_false, decide_eq_true_eq, Int.natAbs_natCast, L2.upd_same, L2.upd_upd, L2.cxOf, L2.gSub, L2.tPar, L2.gCons, L2.gNil, L2.tSl, L2.tPart, L2.rSlL, L2.rSlT, L2.tNoPart, L2.tM1, *])

section
variable {P : Program} {w : World} {K : PySem.W.Frag} {mg : Str → Option Value} {base : Heap}
abbrev NSt : List Str := ["_law_row", "_law_most", "_law_found", "_law_k", "_law_word", "_law_many", "_law_deed", "_law_size", "_law_part"]
def sp_law_steps (K : PySem.W.Frag) : Sp := fun vs H Q _ => ∃ (r sc : Addr) (ns : List Int) (most : Int), vs = [.ref r, .int most] ∧ 0 ≤ most ∧ most ≤ 300 ∧ RowAt K H r sc ns ∧
  ∀ H' F ds ps, RowAt K H' r sc ns → Stp [r] H H' → H F = none → H' F = some (.lst (ps.map V.ref)) → ps.length ≤ 300 → DDs K H' ds ps → (∀ d ∈ ds, okD d = true) → Q (.ref F) H'
theorem sc_law_steps : FnScope NSt ["_law_row", "_law_most"] (defScope s_law_steps) := ⟨rfl, rfl, rfl, by decide +kernel, rfl, by decide +kernel, by decide +kernel⟩
abbrev teTk (K : PySem.W.Frag) (n : Int) : TE := tCall (sp_taken K) [] E0 (tCons (tVar 0) (tCons (tC (.int n)) tNil))
abbrev te2 (K : PySem.W.Frag) (a b : Int) : TE := tOp (rIxL K) (tLst (tCons (tC (.int a)) (tCons (tC (.int b)) tNil))) (teTk K 2)
abbrev teAny (K : PySem.W.Frag) : TE := tCall (sp_taken K) [] E0 (tCons (tVar 0) (tCons (te2 K 7 1000) tNil))
theorem pr_ints {H : Hp} : ∀ xs : List Int, Paired (RVat K H) (xs.map fun i => (Sum.inl (some i) : RV)) (xs.map V.int)
  | [] => .nil
  | _ :: r => .cons rfl (pr_ints r)
theorem te2_ok {σ : L2.St} {H : Hp} {Q : VK} {r sc : Addr} {ns : List Int} (a b : Int) (hσ : σ[0]? = some (some (.ref r))) (hR : RowAt K H r sc ns) (q : ∀ v H', (v = a ∨ v = b) → RowAt K H' r sc ns → Stp [r] H H' → Q (.int v) H') : te2 K a b σ H Q := by
  refine ⟨by show 2 ≤ sizeLine; decide, fun p hp => ⟨_, hσ, r, sc, ns, 2, rfl, row_new hR hp, by decide, fun c H2 c0 c1 hR2 s2 => ?_⟩⟩
  have s1 := Stp.new (o := .lst [.int a, .int b]) hp
  have e := s2.keep _ _ (upd_same (H := H) (a := p) (o := .lst [.int a, .int b])) (by simpa using row_ne hR hp)
  have s12 : Stp [r] H H2 := (s1.trans s2).sub (by simp)
  rcases (show c = 0 ∨ c = 1 by omega) with rfl | rfl
  · exact ixL (.inl (.inl e)) (x := .int a) rfl (q a H2 (.inl rfl) hR2 s12)
  · exact ixL (.inl (.inl e)) (x := .int b) rfl (q b H2 (.inr rfl) hR2 s12)
theorem ok_law_steps {f : Addr} {fd : FuncData} (F : Fun K "_law_steps" "_law_steps" s_law_steps f fd) (B : Blt mg) (GT : OwnF P w K mg base "_law_taken" 1 ["_law_row", "_law_many"] (sp_taken K)) (GN : OwnF P w K mg base "_law_number" 2 ["_law_row"] (sp_drawn K (-999) 999)) : FnOk P w K mg base CX0 3 f fd ["_law_row", "_law_most"] (sp_law_steps K) := by
  refine F.ok sc_law_steps (fun vs H Q E h => ?_) (fun cdv A outer s H vs Q E hr h => ?_)
  · obtain ⟨r, sc, ns, m, rfl, _⟩ := h
    rfl
  · obtain ⟨r, sc, ns, most, rfl, m0, m1, hR, k⟩ := h
    have nd := sc_law_steps.nd
    have hu := hu_of hr
    have r1 := hr.mono (show 1 ≤ 2 by decide)
    refine ⟨_, pss_cons (ps_set (i := 2) nd rfl (.inl rfl) (pe_lst pa_nil))
      (pss_cons (ps_for PassesOwn.never rfl (pi_range1 (by rfl) B.range (pa_cons (p_call GT r1 (pa_cons (pv 0) (pa_cons (pe_op op_add (pv 1) pe_int) pa_nil))) pa_nil)) (pg_name (i := 3) nd rfl (.inl rfl))
        (pss_cons (ps_set (i := 4) nd rfl (.inl rfl) (pe_ix ix_list (pe_lst (pa_cons pe_str (pa_cons pe_str (pa_cons pe_str (pa_cons pe_str (pa_cons pe_str (pa_cons pe_str (pa_cons pe_str (pa_cons pe_str pa_nil))))))))) (p_call GT r1 (pa_cons (pv 0) (pa_cons pe_int pa_nil))) (fun _ _ => rfl)))
        (pss_cons (ps_set (i := 5) nd rfl (.inl rfl) (pe_weak (pe_dget hu (pe_disp (pps_cons pe_str pe_int (pps_cons pe_str pe_int (pps_cons pe_str pe_int (pps_cons pe_str pe_int (pps_cons pe_str pe_int (pps_cons pe_str pe_int (pps_cons pe_str pe_int pps_nil))))))) (by rfl) (by rfl) (by simp) (by decide)) (pv 4) (fun _ _ => rfl)) many_weak))
        (pss_cons (ps_set (i := 6) nd rfl (.inl rfl) (pe_op op_catA (pe_tup (pa_cons (pv 4) pa_nil)) (pe_callTy call_tuple_of (by rfl) B.tuple PyProof.Rows.boot_tuple (pa_cons (pe_lc (own := [("_law_part", 8)]) (te := teAny K) rfl nd (pi_range1 (by rfl) B.range (pa_cons (pv 5) pa_nil)) (blkOk_by (N := NSt) (sc := defScope s_law_steps) (by decide +kernel)) (fun _ _ _ _ _ => pg_name (i := 8) nd rfl (.inl rfl)) (fun _ _ _ _ _ => pts_nil) (fun _ _ _ _ _ => p_call GT r1 (pa_cons (pv 0) (pa_cons (pe_ix ix_list (pe_lst (pa_cons pe_int (pa_cons pe_int pa_nil))) (p_call GT r1 (pa_cons (pv 0) (pa_cons pe_int pa_nil))) (fun _ _ => rfl)) pa_nil)))) pa_nil))))
        (pss_cons (ps_if (pt_cmpR op_eq (pv 4) pe_str (nomark _))
          (pss_cons (ps_set (i := 7) nd rfl (.inl rfl) (pe_op op_add pe_int (p_call GT r1 (pa_cons (pv 0) (pa_cons (pe_ix ix_list (pe_lst (pa_cons pe_int (pa_cons pe_int pa_nil))) (p_call GT r1 (pa_cons (pv 0) (pa_cons pe_int pa_nil))) (fun _ _ => rfl)) pa_nil)))))
          (pss_one (ps_set (i := 6) nd rfl (.inl rfl) (pe_op op_catA (pv 6) (pe_tup (pa_cons (pe_callTy call_tuple_of (by rfl) B.tuple PyProof.Rows.boot_tuple (pa_cons (pe_lc (own := [("_law_part", 8)]) (te := tCall (sp_drawn K (-999) 999) [] E0 (tCons (tVar 0) tNil)) rfl nd (pi_range1 (by rfl) B.range (pa_cons (pv 7) pa_nil)) (blkOk_by (N := NSt) (sc := defScope s_law_steps) (by decide +kernel)) (fun _ _ _ _ _ => pg_name (i := 8) nd rfl (.inl rfl)) (fun _ _ _ _ _ => pts_nil) (fun _ _ _ _ _ => p_call GN hr (pa_cons (pv 0) pa_nil))) pa_nil)) pa_nil)))))) pss_nil)
        (pss_one (ps_expr (pe_bm PySem.F.plainAttrs_list PySem.F.slot_list_append PySem.F.type_list_append mt_append (pv 2) (pa_cons (pv 6) pa_nil)))))))))
      (pss_one (ps_ret (pv 2)))), ?_⟩
    walk_at "rd"
    refine ⟨Nat.zero_le _, fun F hF => ?_⟩
    have s1 := Stp.new (o := .lst []) hF
    have e1 : upd H F (.lst []) F = some (.lst (([] : List Addr).map V.ref)) := upd_same
    have hR1 := hR.st0 s1
    have hFr : F ≠ r := row_ne hR hF
    generalize upd H F (.lst []) = H1 at *
    refine ⟨_, rfl, _, rfl, most, 1, rfl, rfl, r, sc, ns, most + 1, rfl, hR1, by omega, fun c H2 c0 c1 hR2 s2 => ⟨c, rfl, by omega, by omega, ?_⟩⟩
    refine for_range (lo := 0) (n := c.toNat) (fun i σ H3 => ∃ v3 v4 v5 v6 v7 ps ds, σ = [some (.ref r), some (.int most), some (.ref F), v3, v4, v5, v6, v7, none] ∧ RowAt K H3 r sc ns ∧ Stp [r, F] H1 H3 ∧ H3 F = some (.lst (ps.map V.ref)) ∧ ps.length = i ∧ DDs K H3 ds ps ∧ ∀ d ∈ ds, okD d = true)
      ⟨_, _, _, _, _, [], [], rfl, hR2, s2.sub (by simp), s2.keep _ _ e1 (by simpa using hFr), rfl, .nil, by simp⟩ (fun i σ H3 hi h => ?_) (fun σ H3 h => ?_)
    · obtain ⟨v3, v4, v5, v6, v7, ps, ds, rfl, hR3, s3, e3, hpl, hdd, hok⟩ := h
      show tSeq _ _ _ _ _
      walk_at "rd"
      refine ⟨by show 8 ≤ sizeLine; decide, fun p hp => ?_⟩
      have s4 := Stp.new (o := .lst wordsL) hp
      have e4 : upd H3 p (.lst wordsL) p = some (.lst wordsL) := upd_same
      have hR4 := hR3.st0 s4
      have hpr : p ≠ r := row_ne hR3 hp
      have e34 := s4.keep _ _ e3 (by simp)
      have hd4 := hdd.st s4
      show sp_taken K [.ref r, .int 8] (upd H3 p (.lst wordsL)) _ _
      generalize upd H3 p (.lst wordsL) = H4 at *
      refine ⟨r, sc, ns, 8, rfl, hR4, by decide, fun cw H5 w0 w1 hR5 s5 => ?_⟩
      obtain ⟨z, m, hat, hm⟩ := word_at w0 w1
      refine ixL (.inl (.inl (s5.keep _ _ e4 (by simpa using hpr)))) hat ⟨z, m, rfl, hm, fun H6 s6 => ?_⟩
      intro t1 ht1
      have e35 := s5.keep _ _ e34 (by simpa using hFr)
      have s36 := s4.trans (s5.trans s6)
      have e36 := s6.keep _ _ e35 (by simp)
      have hR6 := hR5.st0 s6
      have s7 := Stp.new (o := .tup [.str z]) ht1
      have e7 : upd H6 t1 (.tup [.str z]) t1 = some (.tup [.str z]) := upd_same
      have e37 := s7.keep _ _ e36 (by simp)
      have hR7 := hR6.st0 s7
      generalize upd H6 t1 (.tup [.str z]) = H7 at *
      have hmb := many_parts hm
      have hm5 : 0 ≤ m ∧ m ≤ 5 := by rcases hmb with ⟨_, a, b, _⟩ | ⟨_, a⟩ <;> omega
      refine lc_rowI (n := m.toNat) 0 999 hR7 (by omega) (fun R q => ⟨_, rfl, by rw [show ((m.toNat : Nat) : Int) = m by omega] at q; exact q⟩) (fun x H8 hR8 Q' q => ?_) (fun D H8 xs hD hR8 s8 h8 hxl hx => ?_)
      · refine ⟨_, rfl, te2_ok 7 1000 rfl hR8 fun v H9 hv hR9 s9 => ⟨r, sc, ns, v, rfl, hR9, by omega, fun u H10 u0 u1 hR10 s10 => q u H10 u0 (by omega) hR10 ((s9.trans s10).sub (by simp))⟩⟩
      · refine ⟨D, rfl, _, .inl ⟨.inl (.inl h8), fun l hl => ?_⟩⟩
        have s9 := Stp.new (o := .tup (xs.map V.int)) hl
        have hR9 := hR8.st0 s9
        have h9 : upd H8 l (.tup (xs.map V.int)) l = some (.tup (xs.map V.int)) := upd_same
        have s89 := s8.trans s9
        have e39 := s89.keep _ _ e37 (by simpa using hFr)
        have hd9 := hd4.st ((s5.trans s6).trans (s7.trans s89))
        have e79 := s89.tup _ _ e7
        have s19 : Stp [r, F] H1 (upd H8 l (.tup (xs.map V.int))) := ((s3.trans s36).trans (s7.trans s89)).sub (by simp)
        generalize upd H8 l (.tup (xs.map V.int)) = H9 at *
        have hx5 : (xs.map V.int).length ≤ 5 := by rw [List.length_map, hxl]; omega
        refine ⟨t1, l, [.str z], xs.map V.int, rfl, rfl, .inl e79, .inl h9, by simp, Nat.le_trans (show 1 + (xs.map V.int).length ≤ 6 by omega) (by decide), fun t H10 ht s10 => ?_⟩
        have hR10 := hR9.st0 s10
        have e310 := s10.keep _ _ e39 (by simp)
        have hd10 := hd9.st s10
        have s110 : Stp [r, F] H1 H10 := (s19.trans s10).sub (by simp)
        have fin : ∀ (t' : Addr) (H11 : Hp) (d : DD) (o7 : Option V), Stp [r] H10 H11 → RowAt K H11 r sc ns → d.at K H11 t' → okD d = true → tBM K "list" rAppend (tVar 2) (tCons (tVar 6) tNil) [some (.ref r), some (.int most), some (.ref F), some (.int (0 + (i : Nat))), some (.str z), some (.int m), some (.ref t'), o7, none] H11 fun x H12 => RowAt K H12 r sc ns ∧ Stp [r, F] H1 H12 ∧ ∃ ps', H12 F = some (.lst (ps'.map V.ref)) ∧ ps'.length = i + 1 ∧ ∃ ds', DDs K H12 ds' ps' ∧ ∀ d ∈ ds', okD d = true := by
          intro t' H11 d o7 s11 hR11 hd' hk'
          have e311 := s11.keep _ _ e310 (by simpa using hFr)
          refine ⟨_, rfl, .inl ⟨rfl, _, .inl (.inl e311)⟩, _, rfl, F, _, _, rfl, rfl, e311, ?_, ?_⟩
          · rw [List.length_map]
            exact Nat.lt_of_le_of_lt (show ps.length ≤ 300 by omega) (by decide)
          · have sP := Stp.put (o := .lst (ps.map V.ref ++ [.ref t'])) e311 (fun xs z => nomatch z)
            refine ⟨row_mv hR hR11 sP (by simpa using hFr.symm) ?_, ((s110.trans s11).trans sP).sub (by simp), ps ++ [t'], by rw [upd_same, List.map_append]; rfl, by rw [List.length_append, hpl]; rfl, ds ++ [d], (((hd10.st s11).st sP).snoc (hd'.st sP)), fun x hx => ?_⟩
            · refine (s1.trans ((s110.trans s11).trans sP)).subN fun b hb => ?_
              simp only [List.append_assoc, List.nil_append, List.cons_append, List.mem_cons, List.not_mem_nil, or_false] at hb
              have hb' : b = r ∨ b = F := by
                rcases hb with e | e | e | e
                · exact .inl e
                · exact .inr e
                · exact .inl e
                · exact .inr e
              rcases hb' with rfl | rfl
              · exact .inl (by simp)
              · exact .inr hF
            · rcases List.mem_append.mp hx with hx | hx
              · exact hok x hx
              · rw [List.mem_singleton.mp hx]; exact hk'
        refine ⟨rfl, ?_⟩
        rcases hmb with ⟨hw, _, _, hpt⟩ | ⟨rfl, rfl⟩
        · rw [if_neg (fun q => hw (by injection q))]
          refine fin t H10 ⟨z, xs.map fun i => .inl (some i)⟩ v7 (Stp.refl.sub (by simp)) hR10 ⟨xs.map V.int, ht, ?_⟩ (ok_plainD hw (by rw [hxl]; exact hpt) hx)
          exact pr_ints xs
        · rw [if_pos rfl]
          intro p11 hp11
          have hR11 := row_new (o := .lst [.int 4, .int 32]) hR10 hp11
          have s11 := Stp.new (o := .lst [.int 4, .int 32]) hp11
          have e11 : upd H10 p11 (.lst [.int 4, .int 32]) p11 = some (.lst [.int 4, .int 32]) := upd_same
          have hpr11 := row_ne hR10 hp11
          generalize upd H10 p11 (.lst [.int 4, .int 32]) = H11 at *
          refine ⟨r, sc, ns, 2, rfl, hR11, by decide, fun c2 H12 c20 c21 hR12 s12 => ?_⟩
          have e12 := s12.keep _ _ e11 (by simpa using hpr11)
          obtain ⟨v, hv, hat2⟩ : ∃ v : Int, (v = 4 ∨ v = 32) ∧ atI [V.int 4, V.int 32] c2 = some (.int v) := by
            rcases (show c2 = 0 ∨ c2 = 1 by omega) with rfl | rfl
            · exact ⟨4, .inl rfl, rfl⟩
            · exact ⟨32, .inr rfl, rfl⟩
          refine ixL (.inl (.inl e12)) hat2 ⟨r, sc, ns, v, rfl, hR12, by omega, fun u H13 u0 u1 hR13 s13 => ⟨_, rfl, ?_⟩⟩
          refine lc_rowI (n := (1 + u).toNat) (-999) 999 hR13 (by omega) (fun R q => ⟨_, rfl, by rw [show (((1 + u).toNat : Nat) : Int) = 1 + u by omega] at q; exact q⟩) (fun x H14 hR14 Q' q => ?_) (fun D2 H14 ys hD2 hR14 s14 h14 hyl hy => ?_)
          · exact ⟨_, rfl, r, sc, ns, rfl, hR14, q⟩
          · have s114 : Stp [r] H10 H14 := (s11.trans (s12.trans (s13.trans s14))).sub (by simp)
            refine ⟨D2, rfl, _, .inl ⟨.inl (.inl h14), fun l2 hl2 p3 hp3 => ?_⟩⟩
            have s15 := Stp.new (o := .tup (ys.map V.int)) hl2
            have h15 : upd H14 l2 (.tup (ys.map V.int)) l2 = some (.tup (ys.map V.int)) := upd_same
            have hR15 := hR14.st0 s15
            generalize upd H14 l2 (.tup (ys.map V.int)) = H15 at *
            have s16 := Stp.new (o := .tup [.ref l2]) hp3
            have h16 : upd H15 p3 (.tup [.ref l2]) p3 = some (.tup [.ref l2]) := upd_same
            have h156 := s16.tup _ _ h15
            have hR16 := hR15.st0 s16
            generalize upd H15 p3 (.tup [.ref l2]) = H16 at *
            have s116 : Stp [r] H10 H16 := (s114.trans (s15.trans s16)).sub (by simp)
            obtain ⟨n, pl, rfl⟩ : ∃ a b, xs = [a, b] := by
              match xs, hxl with
              | [a, b], _ => exact ⟨a, b, rfl⟩
            refine ⟨t, p3, _, [.ref l2], rfl, rfl, ht.st s116, .inl h16, by simp, (by show 3 + 1 ≤ sizeLine; decide), fun t2 H17 ht2 s17 => ?_⟩
            refine fin t2 H17 ⟨"parcel", [.inl (some n), .inl (some pl), .inr (ys.map some)]⟩ _ ((s116.trans s17).sub (by simp)) (hR16.st0 s17) ⟨[.int n, .int pl, .ref l2], ht2, .cons rfl (.cons rfl (.cons ⟨l2, rfl, ?_⟩ .nil))⟩ (ok_parD (hx n (by simp)) (hx pl (by simp)) (by omega) hy)
            rw [List.map_map]
            exact .inl (s17.tup _ _ h156)
    · obtain ⟨v3, v4, v5, v6, v7, ps, ds, rfl, hR3, s3, e3, hpl, hdd, hok⟩ := h
      exact ⟨_, rfl, k H3 F ds ps hR3 ((s1.trans s3).subN fun b hb => by
        simp at hb
        rcases hb with rfl | rfl
        · exact .inl (by simp)
        · exact .inr hF) hF e3 (by omega) hdd hok⟩
end
end Mx

namespace Mx
open PySem L2 TL
set_option hygiene false in
local macro_rules | `(tactic| walk_at "rd") => `(tactic| try simp only [L2.start, List.map_cons, List.map_nil, List.length_cons, List.length_nil, Nat.reduceAdd, Nat.reduceSub, Nat.reduceLT, Nat.reduceLeDiff, List.replicate_succ, List.replicate_zero, List.append_nil, List.nil_append, List.cons_append, List.set_cons_zero, List.set_cons_succ, List.getElem?_cons_zero, List.getElem?_cons_succ,
  Option.some.injEq, List.cons.injEq, and_true, true_and, and_assoc, reduceCtorEq, L2.V.int.injEq, L2.V.ref.injEq, L2.V.bl.injEq, L2.V.str.injEq, L2.V.ty.injEq, L2.HO.ins.injEq, L2.HO.lst.injEq, L2.HO.tup.injEq, L2.HO.dK.injEq, exists_eq_left', exists_eq_left, exists_eq_right, exists_eq', exists_eq, exists_and_left, exists_and_right, reduceIte, Bool.false_eq_true, Bool.not_true, Bool.not_false,
  L2.tSeq, L2.tIfS, L2.tRet, L2.tRetN, L2.tNext, L2.tAsg, L2.gName, L2.tVar, L2.tC, L2.tCons, L2.tNil, L2.tCB, L2.tOp, L2.tUn, L2.tTup, L2.tLst, L2.tB, L2.tOr, L2.tAnd, L2.tNot, L2.tAndV, L2.tOrV, L2.tNotV, L2.tIf, L2.tTest, L2.tChain, L2.rI, L2.rI0, L2.rU, L2.tDrop, L2.tNever, L2.tCall, L2.tMeth, L2.tMake, L2.rGcd, L2.tFld, L2.sFld, L2.sFldAug, Mx.sFldA, Mx.sFldAugA, L2.rAdd, L2.rSub, L2.rEq, L2.rNe, L2.tDGet, L2.tDIn, L2.tDNotIn, L2.sDPut,
  Mx.isi_int_bool, Mx.isi_int_int, Mx.isi_int_tuple, Mx.isi_int_list, Mx.isi_int_str, Mx.scal_int, Mx.scal_str, Mx.scal_bl, Mx.ofString_inj, Mx.ofString_beq, Mx.lk_cons, Mx.pf_nil, Mx.pf_cons, Mx.sz1, Mx.sz2, List.lookup_nil, String.reduceEq, decide_true, decide_false, decide_eq_true_eq, Int.natAbs_natCast, L2.upd_same, L2.upd_upd, L2.cxOf, L2.gSub, L2.tPar, L2.gCons, L2.gNil, L2.tSl, L2.tPart, L2.rSlL, L2.rSlT, L2.tNoPart, L2.tM1])
set_option hygiene false in
local macro_rules | `(tactic| walk_at "rds") => `(tactic| try simp only [L2.start, List.map_cons, List.map_nil, List.length_cons, List.length_nil, Nat.reduceAdd, Nat.reduceSub, Nat.reduceLT, Nat.reduceLeDiff, List.replicate_succ, List.replicate_zero, List.append_nil, List.nil_append, List.cons_append, List.set_cons_zero, List.set_cons_succ, List.getElem?_cons_zero, List.getElem?_cons_succ,
  Option.some.injEq, List.cons.injEq, and_true, true_and, and_assoc, reduceCtorEq, L2.V.int.injEq, L2.V.ref.injEq, L2.V.bl.injEq, L2.V.str.injEq, L2.V.ty.injEq, L2.HO.ins.injEq, L2.HO.lst.injEq, L2.HO.tup.injEq, L2.HO.dK.injEq, exists_eq_left', exists_eq_left, exists_eq_right, exists_eq', exists_eq, exists_and_left, exists_and_right, reduceIte, Bool.false_eq_true, Bool.not_true, Bool.not_false,
  L2.tSeq, L2.tIfS, L2.tRet, L2.tRetN, L2.tNext, L2.tAsg, L2.gName, L2.tVar, L2.tC, L2.tCons, L2.tNil, L2.tCB, L2.tOp, L2.tUn, L2.tTup, L2.tLst, L2.tB, L2.tOr, L2.tAnd, L2.tNot, L2.tAndV, L2.tOrV, L2.tNotV, L2.tIf, L2.tTest, L2.tChain, L2.rI, L2.rI0, L2.rU, L2.tDrop, L2.tNever, L2.tCall, L2.tMeth, L2.tMake, L2.rGcd, L2.tFld, L2.sFld, L2.sFldAug, Mx.sFldA, Mx.sFldAugA, L2.rAdd, L2.rSub, L2.rEq, L2.rNe, L2.tDGet, L2.tDIn, L2.tDNotIn, L2.sDPut,
  Mx.isi_int_bool, Mx.isi_int_int, Mx.isi_int_tuple, Mx.isi_int_list, Mx.isi_int_str, Mx.scal_int, Mx.scal_str, Mx.scal_bl, Mx.ofString_inj, Mx.ofString_beq, Mx.lk_cons, Mx.pf_nil, Mx.pf_cons, Mx.sz1, Mx.sz2, List.lookup_nil, String.reduceEq, decide_true, decide_false, decide_eq_true_eq, Int.natAbs_natCast, L2.upd_same, L2.upd_upd, L2.cxOf, L2.gSub, L2.tPar, L2.gCons, L2.gNil, L2.tSl, L2.tPart, L2.rSlL, L2.rSlT, L2.tNoPart, L2.tM1, *])

/-! ### the same deeds, at other places -/
section
variable {P : Program} {w : World} {K : PySem.W.Frag} {mg : Str → Option Value} {base : Heap}
theorem eq_oV {H : Hp} {n : Nat} (o : Option Int) : EqT K H n (oV o) (oV o) := by
  have h : EqB (oV o) (oV o) := by
    cases o with
    | none => exact .inr (.inr ⟨rfl, rfl⟩)
    | some i => exact .inl ⟨i, rfl, rfl⟩
  cases n with
  | zero => exact h
  | succ n => exact .inl h
theorem eq_oVs {H : Hp} {n : Nat} : ∀ xs : List (Option Int), Paired (EqT K H n) (xs.map oV) (xs.map oV)
  | [] => .nil
  | o :: r => .cons (eq_oV o) (eq_oVs r)
theorem eq_rv {H : Hp} {r : RV} {v v' : V} (h : RVat K H r v) (h' : RVat K H r v') (hl : ∀ xs, r = .inr xs → xs.length ≤ 100000) : EqT K H 1 v v' := by
  cases r with
  | inl o =>
    have e : v = oV o := h
    have e' : v' = oV o := h'
    rw [e, e']
    exact eq_oV o
  | inr xs =>
    obtain ⟨t, rfl, ht⟩ := h
    obtain ⟨t', rfl, ht'⟩ := h'
    exact .inr ⟨t, t', _, _, rfl, rfl, .inl ⟨ht, ht'⟩, by rw [List.length_map]; exact hl xs rfl, eq_oVs xs⟩
theorem eq_rvs {H : Hp} : ∀ {rs : List RV} {vs vs' : List V}, Paired (RVat K H) rs vs → Paired (RVat K H) rs vs' → (∀ xs, Sum.inr xs ∈ rs → xs.length ≤ 100000) → Paired (EqT K H 1) vs vs'
  | _, _, _, .nil, .nil, _ => .nil
  | _, _, _, .cons h r, .cons h' r', hl => .cons (eq_rv h h' fun xs e => hl xs (by rw [e]; simp)) (eq_rvs r r' fun xs hx => hl xs (List.mem_cons_of_mem _ hx))
theorem eq_dd {H : Hp} {d : DD} {a b : Addr} (h : d.at K H a) (h' : d.at K H b) (hk : okD d = true) : EqT K H 2 (.ref a) (.ref b) := by
  obtain ⟨vs, h1, h2⟩ := h
  obtain ⟨vs', h1', h2'⟩ := h'
  have hl := okD_len hk
  have hlen := h2.length
  exact .inr ⟨a, b, _, _, rfl, rfl, .inl ⟨h1, h1'⟩, by rw [List.length_cons]; have := (w_ne (Good.of hk).mem).2.2; omega, .cons (.inl (.inr (.inl ⟨_, ok_small (w_small (Good.of hk).mem), rfl, rfl⟩))) (eq_rvs h2 h2' hl.2)⟩
theorem eq_dds {H : Hp} : ∀ {ds : List DD} {ps qs : List Addr}, DDs K H ds ps → DDs K H ds qs → (∀ d ∈ ds, okD d = true) → Paired (EqT K H 2) (ps.map V.ref) (qs.map V.ref)
  | _, _, _, .nil, .nil, _ => .nil
  | _, _, _, .cons h r, .cons h' r', hk => .cons (eq_dd h h' (hk _ (by simp))) (eq_dds r r' fun d hd => hk d (List.mem_cons_of_mem _ hd))
theorem eq_lst {H : Hp} {ds : List DD} {a b : Addr} {ps qs : List Addr} (ha : H a = some (.lst (ps.map V.ref))) (hb : H b = some (.lst (qs.map V.ref))) (h : DDs K H ds ps) (h' : DDs K H ds qs) (hk : ∀ d ∈ ds, okD d = true) (hl : ps.length ≤ 100000) : EqT K H 3 (.ref a) (.ref b) :=
  .inr ⟨a, b, _, _, rfl, rfl, .inr ⟨ha, hb⟩, by rw [List.length_map]; exact hl, eq_dds h h' hk⟩
abbrev N18 : List Str := ["_law_script", "_law_row", "_law_turn", "_law_deeds", "_law_text_here", "_law_handed", "_law_again", "_law_found", "_law_deed"]
structure G18 (P : Program) (w : World) (K : PySem.W.Frag) (mg : Str → Option Value) (base : Heap) : Prop where
  taken : OwnF P w K mg base "_law_taken" 1 ["_law_row", "_law_many"] (sp_taken K)
  alike : ∀ n, OwnF P w K mg base "_law_alike" (n + 1) ["_law_found", "_law_due"] (sp_eq K n)
  steps : OwnF P w K mg base "_law_steps" 3 ["_law_row", "_law_most"] (sp_law_steps K)
  text : OwnF P w K mg base "_law_text" 1 ["_law_deed"] (sp_law_text K)
  written : OwnF P w K mg base "written" 5 ["deeds"] (sp_written K)
  read : OwnF P w K mg base "read" 4 ["text"] (sp_readV K)
def sp_law (K : PySem.W.Frag) : Sp := fun vs H Q _ => ∃ (a : Addr) (ns : List Int), vs = [.ref a] ∧ SqL K H a (ns.map V.int) ∧ ns.length ≤ 63 ∧ ∀ H', Q (.bl true) H'
theorem sc_law : FnScope N18 ["_law_script"] (defScope s_law) := ⟨rfl, rfl, rfl, by decide +kernel, rfl, by decide +kernel, by decide +kernel⟩
/-- the rows of a text of good deeds -/
theorem rows_good {ds : List DD} (h : ∀ d ∈ ds, okD d = true) (hl : ds.length ≤ 300) : (allTxt ds).length ≤ 1000000 ∧ (rowsOf (allTxt ds)).length ≤ 300 ∧ (∀ y ∈ rowsOf (allTxt ds), y.length ≤ 99980 ∧ okD (rdRow y) = true) ∧ (rowsOf (allTxt ds)).map rdRow = ds := by
  have g : ∀ d ∈ ds, Good d := fun d hd => Good.of (h d hd)
  rw [rows_all g]
  refine ⟨Nat.le_trans (len_all g hl) (by decide), by rw [List.length_map]; exact hl, fun y hy => ?_, ?_⟩
  · obtain ⟨d, hd, rfl⟩ := List.mem_map.mp hy
    rw [rd_row (g d hd)]
    exact ⟨Nat.le_trans (row_free (g d hd)).2.2.1 (by decide), h d hd⟩
  · rw [List.map_map]
    conv => rhs; rw [← List.map_id ds]
    exact List.map_congr_left fun d hd => rd_row (g d hd)
theorem ok_law {f : Addr} {fd : FuncData} (B : Blt mg) (G : G18 P w K mg base) (F : Fun K "law" "law" s_law f fd) : FnOk P w K mg base CX0 6 f fd ["_law_script"] (sp_law K) := by
  refine F.ok sc_law (fun vs H Q E h => ?_) (fun cdv A outer s H vs Q E hr h => ?_)
  · obtain ⟨a, ns, rfl, _⟩ := h
    rfl
  · obtain ⟨sc, ns, rfl, hS, hlen, k⟩ := h
    have nd := sc_law.nd
    have hu := hu_of hr
    have hu64 : (A.deeper (PyProof.Rows.envOfC "law" (defScope s_law) s.heap.objs.size f cdv)).units + 64 < cLine := by
      have := hr.un
      omega
    have r1 := hr.mono (show 1 ≤ 5 by decide)
    have r3 := hr.mono (show 3 ≤ 5 by decide)
    have r4 := hr.mono (show 4 ≤ 5 by decide)
    refine ⟨_, pss_cons (ps_set (i := 1) nd rfl (.inl rfl) (pe_lst (pa_cons (pv 0) (pa_cons pe_int (pa_cons pe_int pa_nil)))))
      (pss_cons (ps_for PassesOwn.never rfl (pi_range1 (by rfl) B.range (pa_cons pe_int pa_nil)) (pg_name (i := 2) nd rfl (.inl rfl))
        (pss_cons (ps_set (i := 3) nd rfl (.inl rfl) (p_call G.steps r3 (pa_cons (pv 1) (pa_cons (pe_ix ix_list (pe_lst (pa_cons pe_int (pa_cons pe_int (pa_cons pe_int pa_nil)))) (p_call G.taken r1 (pa_cons (pv 1) (pa_cons pe_int pa_nil))) (fun _ _ => rfl)) pa_nil))))
        (pss_cons (ps_set (i := 4) nd rfl (.inl rfl) (pe_join pe_str (pe_lc (own := [("_law_deed", 8)]) (te := tCall (sp_law_text K) [] E0 (tCons (tVar 8) tNil)) rfl nd (pi_list (pv 3)) (blkOk_by (N := N18) (sc := defScope s_law) (by decide +kernel)) (fun _ _ _ _ _ => pg_name (i := 8) nd rfl (.inl rfl)) (fun _ _ _ _ _ => pts_nil) (fun _ _ _ _ _ => p_call G.text r1 (pa_cons (pv 8) pa_nil)))))
        (pss_cons (ps_set (i := 5) nd rfl (.inl rfl) (pe_callTy call_list_of (by rfl) B.list PyProof.Rows.boot_list (pa_cons (pv 3) pa_nil)))
        (pss_cons (ps_if (PW.pt (pw_or (pt_not (pt_val (p_call (G.alike 0) r1 (pa_cons (p_call G.written hr (pa_cons (pv 5) pa_nil)) (pa_cons (pv 4) pa_nil))))) (pw_or1 (pt_cmpR (op_neD hu64) (pv 5) (pv 3) (nomark _))))) pss_never pss_nil)
        (pss_one (ps_for PassesOwn.never rfl (pi_range1 (by rfl) B.range (pa_cons pe_int pa_nil)) (pg_name (i := 6) nd rfl (.inl rfl))
          (pss_cons (ps_set (i := 7) nd rfl (.inl rfl) (p_call G.read r4 (pa_cons (pv 4) pa_nil)))
          (pss_cons (ps_if (PW.pt (pw_or (pt_not (pt_val (p_call (G.alike 3) r4 (pa_cons (pv 7) (pa_cons (pv 3) pa_nil))))) (pw_or1 (pt_cmpR op_ne (p_call G.written hr (pa_cons (pv 7) pa_nil)) (pv 4) (nomark _))))) pss_never pss_nil)
          (pss_one (ps_expr (pe_bm PySem.F.plainAttrs_list PySem.F.slot_list_append PySem.F.type_list_append mt_append (pv 7) (pa_cons (pe_tup pa_nil) pa_nil)))))))))))))
      (pss_one (ps_ret pe_bl))), ?_⟩
    walk_at "rd"
    refine ⟨by show 3 ≤ sizeLine; decide, fun r hr0 => ?_⟩
    have hsr : sc ≠ r ∨ ∀ H', SqL K H' sc (ns.map V.int) := by
      rcases hS with (q | ⟨o, q⟩) | q
      · exact .inl (ne_of_none q hr0)
      · exact .inl (ne_of_none q hr0)
      · exact .inr fun H' => .inr q
    refine ⟨3, rfl, by decide, by decide, for_range (n := 3) (fun i σ H' => ∃ x2 x3 x4 x5 x6 x7, σ = [some (.ref sc), some (.ref r), x2, x3, x4, x5, x6, x7, none] ∧ RowAt K H' r sc ns) ?_ ?_ ?_⟩
    · exact ⟨_, _, _, _, _, _, rfl, 0, 0, by decide, by decide, by decide, upd_same, seq_st hS (Stp.new hr0) (by simp), hsr⟩
    · rintro i σ H1 hi ⟨x2, x3, x4, x5, x6, x7, rfl, hR1⟩
      show tSeq _ _ _ _ _
      walk_at "rd"
      refine ⟨by show 3 ≤ sizeLine; decide, fun p hp => ?_⟩
      have hR2 := row_new (o := .lst [.int 9, .int 40, .int 300]) hR1 hp
      have e2 : upd H1 p (.lst [.int 9, .int 40, .int 300]) p = some (.lst [.int 9, .int 40, .int 300]) := upd_same
      have hpr := row_ne hR1 hp
      generalize upd H1 p (.lst [.int 9, .int 40, .int 300]) = H2 at *
      refine ⟨r, sc, ns, 3, rfl, hR2, by decide, fun c H3 c0 c1 hR3 s3 => ?_⟩
      obtain ⟨m, m0, m1, hat⟩ : ∃ m : Int, 0 ≤ m ∧ m ≤ 300 ∧ atI [V.int 9, V.int 40, V.int 300] c = some (.int m) := by
        rcases (show c = 0 ∨ c = 1 ∨ c = 2 by omega) with rfl | rfl | rfl
        · exact ⟨9, by decide, by decide, rfl⟩
        · exact ⟨40, by decide, by decide, rfl⟩
        · exact ⟨300, by decide, by decide, rfl⟩
      refine ixL (.inl (.inl (s3.keep _ _ e2 (by simpa using hpr)))) hat ?_
      refine ⟨r, sc, ns, m, rfl, m0, m1, hR3, fun H4 F ds ps hR4 s4 hF e4 hl4 hd4 hk => ?_⟩
      have hlen4 := hd4.length
      have hdl : ds.length ≤ 300 := by omega
      obtain ⟨z1, z2, z3, z4⟩ := rows_good hk hdl
      have gd : ∀ d ∈ ds, Good d := fun d hd => Good.of (hk d hd)
      refine lc_lstYv (xs := ps.map V.ref) (ys := (ds.map rowTxt).map V.str) rfl e4 (by simp [hlen4]) (by rw [List.length_map]; omega) (fun j x y H5 hj hy s5 Q' q => ?_) (fun D H5 hD s5 h5 => ?_)
      · rw [List.getElem?_map] at hj
        obtain ⟨t, ht, rfl⟩ := Option.map_eq_some_iff.mp hj
        obtain ⟨hjl, _⟩ := List.getElem?_eq_some_iff.mp ht
        obtain ⟨d, t', h1, h2, h3⟩ := pr_get hd4 j (by omega) hjl
        rw [ht] at h2
        cases h2
        rw [List.map_map, List.getElem?_map, h1] at hy
        cases hy
        exact ⟨_, rfl, t, d, rfl, h3.st s5, gd d (List.mem_of_getElem? h1), q⟩
      have a9 : ∀ p ∈ ds.map rowTxt, p.length ≤ 966 := by
        intro p hp
        obtain ⟨d, hd, rfl⟩ := List.mem_map.mp hp
        exact (row_free (gd d hd)).2.2.1
      have hsum := sum_len a9
      have hnl : (Str.ofString "\n").length = 1 := by rw [len_tl, tl_nl]; rfl
      refine ⟨D, rfl, ds.map rowTxt, .inl (.inl (.inl h5)), by rw [hnl]; rw [List.length_map] at hsum ⊢; omega, ?_⟩
      show _
      have ez : Txt.join (Str.ofString "\n") (ds.map rowTxt) = allTxt ds := rfl
      rw [ez]
      have e5 := s5.keep _ _ e4 (by simp)
      have hd5 := hd4.st s5
      have hR5 := hR4.st0 s5
      refine ⟨F, rfl, _, .inl (.inl (.inl e5)), fun L hL => ?_⟩
      have s6 := Stp.new (o := .lst (ps.map V.ref)) hL
      have h6 : upd H5 L (.lst (ps.map V.ref)) L = some (.lst (ps.map V.ref)) := upd_same
      have e6 := s6.keep _ _ e5 (by simp)
      have hd6 := hd5.st s6
      have hR6 := hR5.st0 s6
      generalize upd H5 L (.lst (ps.map V.ref)) = H6 at *
      refine ⟨L, ds, ps, rfl, h6, hl4, hd6, hk, fun H7 s7 => ?_⟩
      refine ⟨_, _, rfl, .inr (.inl ⟨_, all_ok gd, rfl, rfl⟩), fun H8 s8 => ⟨_, rfl, iteF ?_⟩⟩
      have s68 := s7.trans s8
      have h8 := s68.keep _ _ h6 (by simp)
      have e8 := s68.keep _ _ e6 (by simp)
      have hd8 := hd6.st s68
      have hR8 := hR6.st0 (s68.sub (by simp))
      refine ne_T (eq_lst h8 e8 hd8 hd8 hk (by omega)) (by decide) ?_
      walk_at "rd"
      refine ⟨2, rfl, by decide, by decide, for_range (n := 2) (fun j σ H' => ∃ y6 y7, σ = [some (.ref sc), some (.ref r), some (.int (0 + (i : Nat))), some (.ref F), some (.str (allTxt ds)), some (.ref L), y6, y7, none] ∧ RowAt K H' r sc ns ∧ H' F = some (.lst (ps.map V.ref)) ∧ DDs K H' ds ps) ?_ ?_ ?_⟩
      · exact ⟨_, _, rfl, hR8, e8, hd8⟩
      · rintro j σ H9 hj ⟨y6, y7, rfl, hR9, e9, hd9⟩
        show tSeq _ _ _ _ _
        walk_at "rd"
        refine ⟨allTxt ds, rfl, z1, z2, z3, fun H10 M qs s10 hM h10 hq => ?_⟩
        rw [z4] at hq
        have hR10 := hR9.st0 s10
        have e10 := s10.keep _ _ e9 (by simp)
        have hd10 := hd9.st s10
        have hql := hq.length
        refine ⟨_, _, rfl, eq_lst h10 e10 hq hd10 hk (by omega), fun H11 s11 => ⟨_, rfl, iteF ?_⟩⟩
        have h11 := s11.keep _ _ h10 (by simp)
        have hq11 := hq.st s11
        refine ⟨M, ds, qs, rfl, h11, by omega, hq11, hk, fun H12 s12 => ⟨rfl, ?_⟩⟩
        rw [if_neg (by simp)]
        have s1012 := s11.trans s12
        have h12 := s1012.keep _ _ h10 (by simp)
        refine ⟨_, rfl, .inl ⟨rfl, _, .inl (.inl h12)⟩, ?_⟩
        refine ⟨Nat.zero_le _, fun t ht => ⟨M, _, _, rfl, rfl, by rw [upd_ne (ne_of_none h12 ht)]; exact h12, by rw [List.length_map]; exact Nat.lt_of_le_of_lt (show qs.length ≤ 300 by omega) (by decide), ?_⟩⟩
        have s13 := Stp.new (o := .tup []) ht
        have h13 := s13.keep _ _ h12 (by simp)
        have sP := Stp.put (o := .lst (qs.map V.ref ++ [.ref t])) h13 (fun xs z => nomatch z)
        have s1013 := s1012.trans s13
        have hMr : r ≠ M := by
          obtain ⟨_, _, _, _, _, z, _⟩ := hR9
          exact ne_of_none z hM
        have hMF : F ≠ M := ne_of_none e9 hM
        have sall : Stp [r] H9 _ := (s10.trans (s1013.trans sP)).subN fun b hb => by
          simp only [List.append_nil, List.nil_append, List.mem_singleton] at hb
          rw [hb]
          exact .inr hM
        exact ⟨row_mv hR9 (hR10.st0 (s1013.sub (by simp))) sP (by simpa using hMr) sall, sP.keep _ _ (s1013.keep _ _ e10 (by simp)) (by simpa using hMF), (hd10.st s1013).st sP⟩
      · rintro σ H9 ⟨y6, y7, rfl, hR9, e9, hd9⟩
        exact ⟨⟨_, _, _, _, _, _, rfl⟩, hR9⟩
    · rintro σ H0 ⟨x2, x3, x4, x5, x6, x7, rfl, hR0⟩
      exact k H0
end
end Mx

namespace Mx
open PySem L2 TL
theorem parts_ok2 {K : PySem.W.Frag} {w : World} {mg : Str → Option Value} {aP : Addr} {es : Array DictEntry} {n : Nat} (hm : mg "PARTS" = some (.ref aP)) (hl : K.lookup aP = some ⟨.type "dict", none, .dict es n, #[]⟩) (hk : PySem.W.KeysLit w.params es.toList) (hs : (aP == sysModules) = false)
    (hkeys : ∃ t1 t2 t3 t4 t5 t6 t7 : Tok, es.toList.map DictEntry.key = [.str "add" t1, .str "parcel" t2, .str "end" t3, .str "lead" t4, .str "hush" t5, .str "wake" t6, .str "beat" t7]) (hall : ∀ p ∈ partsT, KDct K w aP p.1 (.int p.2)) : PartsOk2 K w mg aP := by
  refine ⟨hm, ⟨es, n, hl, hk⟩, hs, hall, fun z hz => ⟨es, n, hl, hk, ?_⟩⟩
  obtain ⟨t1, t2, t3, t4, t5, t6, t7, e⟩ := hkeys
  have key : ∀ d ∈ es.toList, d.key.isStr z = false ∧ d.refKey = false := by
    intro d hd
    have hmem : d.key ∈ es.toList.map DictEntry.key := List.mem_map.mpr ⟨d, hd, rfl⟩
    rw [e] at hmem
    have q : ∀ (x : Str) (t : Tok), x ∈ partsT.map Prod.fst → d.key = .str x t → d.key.isStr z = false ∧ d.refKey = false := by
      intro x t hx h
      unfold DictEntry.refKey
      rw [h]
      refine ⟨?_, rfl⟩
      show (x == z) = false
      simp only [beq_eq_false_iff_ne]
      rintro rfl
      exact hz hx
    simp only [List.mem_cons, List.not_mem_nil, or_false] at hmem
    rcases hmem with h | h | h | h | h | h | h <;> exact q _ _ (by simp [partsT]) h
  unfold PySem.W.nsIn
  rw [hl]
  dsimp only
  have h1 : es.toList.find? (fun d => d.key.isStr z) = none := List.find?_eq_none.mpr fun d hd => by rw [(key d hd).1]; simp
  have h2 : es.toList.any (fun d => d.refKey) = false := List.any_eq_false.mpr fun d hd => by rw [(key d hd).2]; simp
  rw [h1]
  dsimp only
  rw [h2]
  rfl
end Mx

namespace Mx
open PySem L2
theorem all_mk {l : PySem.W.OpenLaw} {w : World} {K : PySem.W.Frag} {h : Heap} {mg : Str → Option Value} {fa f_is_whole f_law_taken f_law_number f_law_alike f_are_plain f_is_parcel f_is_deed f_check_deeds f_word_of f_row_of f_number_of f_deed_of f_written f_read f_law_text f_law_steps f_law aP : Addr} (X : K.In h) (G : h.Ns mainGlobals mg) (hfa : mg "law" = some (.ref fa))
    {od_is_whole an_is_whole od_law_taken an_law_taken od_law_number an_law_number od_law_alike an_law_alike od_are_plain an_are_plain od_is_parcel an_is_parcel od_is_deed an_is_deed od_check_deeds an_check_deeds od_word_of an_word_of od_row_of an_row_of od_number_of an_number_of od_deed_of an_deed_of od_written an_written od_read an_read od_law_text an_law_text od_law_steps an_law_steps od_law an_law : Option Addr} {sl_is_whole sl_law_taken sl_law_number sl_law_alike sl_are_plain sl_is_parcel sl_is_deed sl_check_deeds sl_word_of sl_row_of sl_number_of sl_deed_of sl_written sl_read sl_law_text sl_law_steps sl_law : Array (Option Value)}
    {oc_is_whole kV_is_whole dc_is_whole pm_is_whole cd_is_whole ct_is_whole oc_law_taken kV_law_taken dc_law_taken pm_law_taken cd_law_taken ct_law_taken oc_law_number kV_law_number dc_law_number pm_law_number cd_law_number ct_law_number oc_law_alike kV_law_alike dc_law_alike pm_law_alike cd_law_alike ct_law_alike oc_are_plain kV_are_plain dc_are_plain pm_are_plain cd_are_plain ct_are_plain oc_is_parcel kV_is_parcel dc_is_parcel pm_is_parcel cd_is_parcel ct_is_parcel oc_is_deed kV_is_deed dc_is_deed pm_is_deed cd_is_deed ct_is_deed oc_check_deeds kV_check_deeds dc_check_deeds pm_check_deeds cd_check_deeds ct_check_deeds oc_word_of kV_word_of dc_word_of pm_word_of cd_word_of ct_word_of oc_row_of kV_row_of dc_row_of pm_row_of cd_row_of ct_row_of oc_number_of kV_number_of dc_number_of pm_number_of cd_number_of ct_number_of oc_deed_of kV_deed_of dc_deed_of pm_deed_of cd_deed_of ct_deed_of oc_written kV_written dc_written pm_written cd_written ct_written oc_read kV_read dc_read pm_read cd_read ct_read oc_law_text kV_law_text dc_law_text pm_law_text cd_law_text ct_law_text oc_law_steps kV_law_steps dc_law_steps pm_law_steps cd_law_steps ct_law_steps oc_law kV_law dc_law pm_law cd_law ct_law : Value} {t_MOST_DEEDS t_FIGURES tPadd tPparcel tPend tPlead tPhush tPwake tPbeat : Tok} {esP : Array DictEntry} {nP : Nat}
    (a_is_whole : PySem.W.nsIn K mainGlobals "is_whole" = some (some (.ref f_is_whole)))
    (l_is_whole : K.lookup f_is_whole = some ⟨oc_is_whole, od_is_whole, .func (PySem.W.fnOf "is_whole" "is_whole" (defArgs s_is_whole) (defBody s_is_whole) (defScope s_is_whole) .none kV_is_whole dc_is_whole pm_is_whole an_is_whole cd_is_whole ct_is_whole), sl_is_whole⟩)
    (c_is_whole : PySem.W.codeIn K cd_is_whole "is_whole" = true)
    (k_is_whole : PySem.W.keepIn K (.ref f_is_whole) = true)
    (a_law_taken : PySem.W.nsIn K mainGlobals "_law_taken" = some (some (.ref f_law_taken)))
    (l_law_taken : K.lookup f_law_taken = some ⟨oc_law_taken, od_law_taken, .func (PySem.W.fnOf "_law_taken" "_law_taken" (defArgs s_law_taken) (defBody s_law_taken) (defScope s_law_taken) .none kV_law_taken dc_law_taken pm_law_taken an_law_taken cd_law_taken ct_law_taken), sl_law_taken⟩)
    (c_law_taken : PySem.W.codeIn K cd_law_taken "_law_taken" = true)
    (k_law_taken : PySem.W.keepIn K (.ref f_law_taken) = true)
    (a_law_number : PySem.W.nsIn K mainGlobals "_law_number" = some (some (.ref f_law_number)))
    (l_law_number : K.lookup f_law_number = some ⟨oc_law_number, od_law_number, .func (PySem.W.fnOf "_law_number" "_law_number" (defArgs s_law_number) (defBody s_law_number) (defScope s_law_number) .none kV_law_number dc_law_number pm_law_number an_law_number cd_law_number ct_law_number), sl_law_number⟩)
    (c_law_number : PySem.W.codeIn K cd_law_number "_law_number" = true)
    (k_law_number : PySem.W.keepIn K (.ref f_law_number) = true)
    (a_law_alike : PySem.W.nsIn K mainGlobals "_law_alike" = some (some (.ref f_law_alike)))
    (l_law_alike : K.lookup f_law_alike = some ⟨oc_law_alike, od_law_alike, .func (PySem.W.fnOf "_law_alike" "_law_alike" (defArgs s_law_alike) (defBody s_law_alike) (defScope s_law_alike) .none kV_law_alike dc_law_alike pm_law_alike an_law_alike cd_law_alike ct_law_alike), sl_law_alike⟩)
    (c_law_alike : PySem.W.codeIn K cd_law_alike "_law_alike" = true)
    (k_law_alike : PySem.W.keepIn K (.ref f_law_alike) = true)
    (a_are_plain : PySem.W.nsIn K mainGlobals "are_plain" = some (some (.ref f_are_plain)))
    (l_are_plain : K.lookup f_are_plain = some ⟨oc_are_plain, od_are_plain, .func (PySem.W.fnOf "are_plain" "are_plain" (defArgs s_are_plain) (defBody s_are_plain) (defScope s_are_plain) .none kV_are_plain dc_are_plain pm_are_plain an_are_plain cd_are_plain ct_are_plain), sl_are_plain⟩)
    (c_are_plain : PySem.W.codeIn K cd_are_plain "are_plain" = true)
    (k_are_plain : PySem.W.keepIn K (.ref f_are_plain) = true)
    (a_is_parcel : PySem.W.nsIn K mainGlobals "is_parcel" = some (some (.ref f_is_parcel)))
    (l_is_parcel : K.lookup f_is_parcel = some ⟨oc_is_parcel, od_is_parcel, .func (PySem.W.fnOf "is_parcel" "is_parcel" (defArgs s_is_parcel) (defBody s_is_parcel) (defScope s_is_parcel) .none kV_is_parcel dc_is_parcel pm_is_parcel an_is_parcel cd_is_parcel ct_is_parcel), sl_is_parcel⟩)
    (c_is_parcel : PySem.W.codeIn K cd_is_parcel "is_parcel" = true)
    (k_is_parcel : PySem.W.keepIn K (.ref f_is_parcel) = true)
    (a_is_deed : PySem.W.nsIn K mainGlobals "is_deed" = some (some (.ref f_is_deed)))
    (l_is_deed : K.lookup f_is_deed = some ⟨oc_is_deed, od_is_deed, .func (PySem.W.fnOf "is_deed" "is_deed" (defArgs s_is_deed) (defBody s_is_deed) (defScope s_is_deed) .none kV_is_deed dc_is_deed pm_is_deed an_is_deed cd_is_deed ct_is_deed), sl_is_deed⟩)
    (c_is_deed : PySem.W.codeIn K cd_is_deed "is_deed" = true)
    (k_is_deed : PySem.W.keepIn K (.ref f_is_deed) = true)
    (a_check_deeds : PySem.W.nsIn K mainGlobals "check_deeds" = some (some (.ref f_check_deeds)))
    (l_check_deeds : K.lookup f_check_deeds = some ⟨oc_check_deeds, od_check_deeds, .func (PySem.W.fnOf "check_deeds" "check_deeds" (defArgs s_check_deeds) (defBody s_check_deeds) (defScope s_check_deeds) .none kV_check_deeds dc_check_deeds pm_check_deeds an_check_deeds cd_check_deeds ct_check_deeds), sl_check_deeds⟩)
    (c_check_deeds : PySem.W.codeIn K cd_check_deeds "check_deeds" = true)
    (k_check_deeds : PySem.W.keepIn K (.ref f_check_deeds) = true)
    (a_word_of : PySem.W.nsIn K mainGlobals "word_of" = some (some (.ref f_word_of)))
    (l_word_of : K.lookup f_word_of = some ⟨oc_word_of, od_word_of, .func (PySem.W.fnOf "word_of" "word_of" (defArgs s_word_of) (defBody s_word_of) (defScope s_word_of) .none kV_word_of dc_word_of pm_word_of an_word_of cd_word_of ct_word_of), sl_word_of⟩)
    (c_word_of : PySem.W.codeIn K cd_word_of "word_of" = true)
    (k_word_of : PySem.W.keepIn K (.ref f_word_of) = true)
    (a_row_of : PySem.W.nsIn K mainGlobals "row_of" = some (some (.ref f_row_of)))
    (l_row_of : K.lookup f_row_of = some ⟨oc_row_of, od_row_of, .func (PySem.W.fnOf "row_of" "row_of" (defArgs s_row_of) (defBody s_row_of) (defScope s_row_of) .none kV_row_of dc_row_of pm_row_of an_row_of cd_row_of ct_row_of), sl_row_of⟩)
    (c_row_of : PySem.W.codeIn K cd_row_of "row_of" = true)
    (k_row_of : PySem.W.keepIn K (.ref f_row_of) = true)
    (a_number_of : PySem.W.nsIn K mainGlobals "number_of" = some (some (.ref f_number_of)))
    (l_number_of : K.lookup f_number_of = some ⟨oc_number_of, od_number_of, .func (PySem.W.fnOf "number_of" "number_of" (defArgs s_number_of) (defBody s_number_of) (defScope s_number_of) .none kV_number_of dc_number_of pm_number_of an_number_of cd_number_of ct_number_of), sl_number_of⟩)
    (c_number_of : PySem.W.codeIn K cd_number_of "number_of" = true)
    (k_number_of : PySem.W.keepIn K (.ref f_number_of) = true)
    (a_deed_of : PySem.W.nsIn K mainGlobals "deed_of" = some (some (.ref f_deed_of)))
    (l_deed_of : K.lookup f_deed_of = some ⟨oc_deed_of, od_deed_of, .func (PySem.W.fnOf "deed_of" "deed_of" (defArgs s_deed_of) (defBody s_deed_of) (defScope s_deed_of) .none kV_deed_of dc_deed_of pm_deed_of an_deed_of cd_deed_of ct_deed_of), sl_deed_of⟩)
    (c_deed_of : PySem.W.codeIn K cd_deed_of "deed_of" = true)
    (k_deed_of : PySem.W.keepIn K (.ref f_deed_of) = true)
    (a_written : PySem.W.nsIn K mainGlobals "written" = some (some (.ref f_written)))
    (l_written : K.lookup f_written = some ⟨oc_written, od_written, .func (PySem.W.fnOf "written" "written" (defArgs s_written) (defBody s_written) (defScope s_written) .none kV_written dc_written pm_written an_written cd_written ct_written), sl_written⟩)
    (c_written : PySem.W.codeIn K cd_written "written" = true)
    (k_written : PySem.W.keepIn K (.ref f_written) = true)
    (a_read : PySem.W.nsIn K mainGlobals "read" = some (some (.ref f_read)))
    (l_read : K.lookup f_read = some ⟨oc_read, od_read, .func (PySem.W.fnOf "read" "read" (defArgs s_read) (defBody s_read) (defScope s_read) .none kV_read dc_read pm_read an_read cd_read ct_read), sl_read⟩)
    (c_read : PySem.W.codeIn K cd_read "read" = true)
    (k_read : PySem.W.keepIn K (.ref f_read) = true)
    (a_law_text : PySem.W.nsIn K mainGlobals "_law_text" = some (some (.ref f_law_text)))
    (l_law_text : K.lookup f_law_text = some ⟨oc_law_text, od_law_text, .func (PySem.W.fnOf "_law_text" "_law_text" (defArgs s_law_text) (defBody s_law_text) (defScope s_law_text) .none kV_law_text dc_law_text pm_law_text an_law_text cd_law_text ct_law_text), sl_law_text⟩)
    (c_law_text : PySem.W.codeIn K cd_law_text "_law_text" = true)
    (k_law_text : PySem.W.keepIn K (.ref f_law_text) = true)
    (a_law_steps : PySem.W.nsIn K mainGlobals "_law_steps" = some (some (.ref f_law_steps)))
    (l_law_steps : K.lookup f_law_steps = some ⟨oc_law_steps, od_law_steps, .func (PySem.W.fnOf "_law_steps" "_law_steps" (defArgs s_law_steps) (defBody s_law_steps) (defScope s_law_steps) .none kV_law_steps dc_law_steps pm_law_steps an_law_steps cd_law_steps ct_law_steps), sl_law_steps⟩)
    (c_law_steps : PySem.W.codeIn K cd_law_steps "_law_steps" = true)
    (k_law_steps : PySem.W.keepIn K (.ref f_law_steps) = true)
    (a_law : PySem.W.nsIn K mainGlobals "law" = some (some (.ref f_law)))
    (l_law : K.lookup f_law = some ⟨oc_law, od_law, .func (PySem.W.fnOf "law" "law" (defArgs s_law) (defBody s_law) (defScope s_law) .none kV_law dc_law pm_law an_law cd_law ct_law), sl_law⟩)
    (c_law : PySem.W.codeIn K cd_law "law" = true)
    (k_law : PySem.W.keepIn K (.ref f_law) = true)
    (z_isinstance : PySem.W.nsIn K mainGlobals "isinstance" = some none)
    (z_bool : PySem.W.nsIn K mainGlobals "bool" = some none)
    (z_int : PySem.W.nsIn K mainGlobals "int" = some none)
    (z_tuple : PySem.W.nsIn K mainGlobals "tuple" = some none)
    (z_len : PySem.W.nsIn K mainGlobals "len" = some none)
    (z_all : PySem.W.nsIn K mainGlobals "all" = some none)
    (z_any : PySem.W.nsIn K mainGlobals "any" = some none)
    (z_min : PySem.W.nsIn K mainGlobals "min" = some none)
    (z_max : PySem.W.nsIn K mainGlobals "max" = some none)
    (z_divmod : PySem.W.nsIn K mainGlobals "divmod" = some none)
    (z_enumerate : PySem.W.nsIn K mainGlobals "enumerate" = some none)
    (z_sorted : PySem.W.nsIn K mainGlobals "sorted" = some none)
    (z_list : PySem.W.nsIn K mainGlobals "list" = some none)
    (z_range : PySem.W.nsIn K mainGlobals "range" = some none)
    (z_abs : PySem.W.nsIn K mainGlobals "abs" = some none)
    (z_str : PySem.W.nsIn K mainGlobals "str" = some none)
    (v_MOST_DEEDS : PySem.W.nsIn K mainGlobals "MOST_DEEDS" = some (some (.int 300 t_MOST_DEEDS)))
    (v_FIGURES : PySem.W.nsIn K mainGlobals "FIGURES" = some (some (.str "0123456789" t_FIGURES)))
    (v_PARTS : PySem.W.nsIn K mainGlobals "PARTS" = some (some (.ref aP)))
    (l_PARTS : K.lookup aP = some ⟨.type "dict", none, .dict esP nP, #[]⟩)
    (m_PARTS : ∃ t1 t2 t3 t4 t5 t6 t7 : Tok, esP.toList.map DictEntry.key = [.str "add" t1, .str "parcel" t2, .str "end" t3, .str "lead" t4, .str "hush" t5, .str "wake" t6, .str "beat" t7])
    (q_PARTS : PySem.W.KeysLit w.params esP.toList)
    (y_PARTS : (aP == sysModules) = false)
    (p_add : PySem.W.nsIn K aP "add" = some (some (.int 5 tPadd)))
    (p_parcel : PySem.W.nsIn K aP "parcel" = some (some (.int 3 tPparcel)))
    (p_end : PySem.W.nsIn K aP "end" = some (some (.int 2 tPend)))
    (p_lead : PySem.W.nsIn K aP "lead" = some (some (.int 3 tPlead)))
    (p_hush : PySem.W.nsIn K aP "hush" = some (some (.int 1 tPhush)))
    (p_wake : PySem.W.nsIn K aP "wake" = some (some (.int 1 tPwake)))
    (p_beat : PySem.W.nsIn K aP "beat" = some (some (.int 0 tPbeat))) :
    ∃ fd : FuncData, (∀ (s : Shared) (v : Value), BindsTo s fd ⟨[v], []⟩ [("_law_script", v)]) ∧ ∀ base : Heap, K.In base → base.Ns mainGlobals mg → FnOk l.prog w K mg base CX0 6 fa fd ["_law_script"] (sp_law K) := by
  have e := hfa.symm.trans (PySem.W.mg_of X G a_law)
  cases e
  have B : Blt mg := ⟨PySem.W.mg_none_of X G z_isinstance, PySem.W.mg_none_of X G z_bool, PySem.W.mg_none_of X G z_int, PySem.W.mg_none_of X G z_tuple, PySem.W.mg_none_of X G z_len, PySem.W.mg_none_of X G z_all, PySem.W.mg_none_of X G z_any, PySem.W.mg_none_of X G z_max, PySem.W.mg_none_of X G z_divmod, PySem.W.mg_none_of X G z_enumerate, PySem.W.mg_none_of X G z_sorted, PySem.W.mg_none_of X G z_list, PySem.W.mg_none_of X G z_range, PySem.W.mg_none_of X G z_abs, PySem.W.mg_none_of X G z_str⟩
  have hPARTS2 : PartsOk2 K w mg aP := parts_ok2 (PySem.W.mg_of X G v_PARTS) l_PARTS q_PARTS y_PARTS m_PARTS (fun p hp => by
    unfold partsT at hp
    simp only [List.mem_cons, List.not_mem_nil, or_false] at hp
    rcases hp with rfl | rfl | rfl | rfl | rfl | rfl | rfl
    · exact ⟨_, _, _, l_PARTS, q_PARTS, p_add, ⟨_, rfl⟩⟩
    · exact ⟨_, _, _, l_PARTS, q_PARTS, p_parcel, ⟨_, rfl⟩⟩
    · exact ⟨_, _, _, l_PARTS, q_PARTS, p_end, ⟨_, rfl⟩⟩
    · exact ⟨_, _, _, l_PARTS, q_PARTS, p_lead, ⟨_, rfl⟩⟩
    · exact ⟨_, _, _, l_PARTS, q_PARTS, p_hush, ⟨_, rfl⟩⟩
    · exact ⟨_, _, _, l_PARTS, q_PARTS, p_wake, ⟨_, rfl⟩⟩
    · exact ⟨_, _, _, l_PARTS, q_PARTS, p_beat, ⟨_, rfl⟩⟩)
  have F_is_whole := fun_mk (st := s_is_whole) l_is_whole c_is_whole k_is_whole
  have b_is_whole := F_is_whole.binds (ps := ["number", "low", "high"]) fun _ _ _ _ _ _ us hl => match us, hl with | [_, _, _], _ => rfl
  have F_law_taken := fun_mk (st := s_law_taken) l_law_taken c_law_taken k_law_taken
  have b_law_taken := F_law_taken.binds (ps := ["_law_row", "_law_many"]) fun _ _ _ _ _ _ us hl => match us, hl with | [_, _], _ => rfl
  have F_law_number := fun_mk (st := s_law_number) l_law_number c_law_number k_law_number
  have b_law_number := F_law_number.binds (ps := ["_law_row"]) fun _ _ _ _ _ _ us hl => match us, hl with | [_], _ => rfl
  have F_law_alike := fun_mk (st := s_law_alike) l_law_alike c_law_alike k_law_alike
  have b_law_alike := F_law_alike.binds (ps := ["_law_found", "_law_due"]) fun _ _ _ _ _ _ us hl => match us, hl with | [_, _], _ => rfl
  have F_are_plain := fun_mk (st := s_are_plain) l_are_plain c_are_plain k_are_plain
  have b_are_plain := F_are_plain.binds (ps := ["parts"]) fun _ _ _ _ _ _ us hl => match us, hl with | [_], _ => rfl
  have F_is_parcel := fun_mk (st := s_is_parcel) l_is_parcel c_is_parcel k_is_parcel
  have b_is_parcel := F_is_parcel.binds (ps := ["numbers"]) fun _ _ _ _ _ _ us hl => match us, hl with | [_], _ => rfl
  have F_is_deed := fun_mk (st := s_is_deed) l_is_deed c_is_deed k_is_deed
  have b_is_deed := F_is_deed.binds (ps := ["deed"]) fun _ _ _ _ _ _ us hl => match us, hl with | [_], _ => rfl
  have F_check_deeds := fun_mk (st := s_check_deeds) l_check_deeds c_check_deeds k_check_deeds
  have b_check_deeds := F_check_deeds.binds (ps := ["deeds"]) fun _ _ _ _ _ _ us hl => match us, hl with | [_], _ => rfl
  have F_word_of := fun_mk (st := s_word_of) l_word_of c_word_of k_word_of
  have b_word_of := F_word_of.binds (ps := ["part"]) fun _ _ _ _ _ _ us hl => match us, hl with | [_], _ => rfl
  have F_row_of := fun_mk (st := s_row_of) l_row_of c_row_of k_row_of
  have b_row_of := F_row_of.binds (ps := ["deed"]) fun _ _ _ _ _ _ us hl => match us, hl with | [_], _ => rfl
  have F_number_of := fun_mk (st := s_number_of) l_number_of c_number_of k_number_of
  have b_number_of := F_number_of.binds (ps := ["word"]) fun _ _ _ _ _ _ us hl => match us, hl with | [_], _ => rfl
  have F_deed_of := fun_mk (st := s_deed_of) l_deed_of c_deed_of k_deed_of
  have b_deed_of := F_deed_of.binds (ps := ["row"]) fun _ _ _ _ _ _ us hl => match us, hl with | [_], _ => rfl
  have F_written := fun_mk (st := s_written) l_written c_written k_written
  have b_written := F_written.binds (ps := ["deeds"]) fun _ _ _ _ _ _ us hl => match us, hl with | [_], _ => rfl
  have F_read := fun_mk (st := s_read) l_read c_read k_read
  have b_read := F_read.binds (ps := ["text"]) fun _ _ _ _ _ _ us hl => match us, hl with | [_], _ => rfl
  have F_law_text := fun_mk (st := s_law_text) l_law_text c_law_text k_law_text
  have b_law_text := F_law_text.binds (ps := ["_law_deed"]) fun _ _ _ _ _ _ us hl => match us, hl with | [_], _ => rfl
  have F_law_steps := fun_mk (st := s_law_steps) l_law_steps c_law_steps k_law_steps
  have b_law_steps := F_law_steps.binds (ps := ["_law_row", "_law_most"]) fun _ _ _ _ _ _ us hl => match us, hl with | [_, _], _ => rfl
  have F_law := fun_mk (st := s_law) l_law c_law k_law
  refine ⟨PySem.W.fnOf "law" "law" (defArgs s_law) (defBody s_law) (defScope s_law) .none kV_law dc_law pm_law an_law cd_law ct_law, fun s v => .of_eq rfl, fun base _ _ => ?_⟩
  have G_is_whole : OwnF l.prog w K mg base "is_whole" 1 ["number", "low", "high"] (sp_is_wholeR K) := ⟨_, _, ok_is_wholeR F_is_whole B, PySem.W.mg_of X G a_is_whole, k_is_whole, b_is_whole⟩
  have G_law_taken : OwnF l.prog w K mg base "_law_taken" 1 ["_law_row", "_law_many"] (sp_taken K) := ⟨_, _, ok_law_taken F_law_taken B, PySem.W.mg_of X G a_law_taken, k_law_taken, b_law_taken⟩
  have G_law_number : OwnF l.prog w K mg base "_law_number" 2 ["_law_row"] (sp_drawn K (-999) 999) := ⟨_, _, ok_law_number F_law_number G_law_taken, PySem.W.mg_of X G a_law_number, k_law_number, b_law_number⟩
  have G_alikeD : ∀ n, OwnF l.prog w K mg base "_law_alike" (n + 1) ["_law_found", "_law_due"] (sp_eq K n) := fun n => ⟨_, _, ok_alike_deep F_law_alike B (PySem.W.mg_of X G a_law_alike) k_law_alike b_law_alike n, PySem.W.mg_of X G a_law_alike, k_law_alike, b_law_alike⟩
  have G_are_plain : OwnF l.prog w K mg base "are_plain" 2 ["parts"] (sp_are_plainR K) := ⟨_, _, ok_are_plainR F_are_plain B G_is_whole, PySem.W.mg_of X G a_are_plain, k_are_plain, b_are_plain⟩
  have G_is_parcel : OwnF l.prog w K mg base "is_parcel" 2 ["numbers"] (sp_is_parcelR K) := ⟨_, _, ok_is_parcelR F_is_parcel B G_is_whole, PySem.W.mg_of X G a_is_parcel, k_is_parcel, b_is_parcel⟩
  have G_is_deed : OwnF l.prog w K mg base "is_deed" 3 ["deed"] (sp_is_deedR K) := ⟨_, _, ok_is_deedR F_is_deed B hPARTS2 G_are_plain G_is_parcel, PySem.W.mg_of X G a_is_deed, k_is_deed, b_is_deed⟩
  have G_check_deeds : OwnF l.prog w K mg base "check_deeds" 4 ["deeds"] (sp_check_deedsR K) := ⟨_, _, ok_check_deedsR F_check_deeds B (PySem.W.mg_of X G v_MOST_DEEDS) G_is_deed, PySem.W.mg_of X G a_check_deeds, k_check_deeds, b_check_deeds⟩
  have G_word_of : OwnF l.prog w K mg base "word_of" 1 ["part"] (sp_word_of K) := ⟨_, _, ok_word_of F_word_of B, PySem.W.mg_of X G a_word_of, k_word_of, b_word_of⟩
  have G_row_of : OwnF l.prog w K mg base "row_of" 2 ["deed"] (sp_row_of K) := ⟨_, _, ok_row_of F_row_of G_word_of, PySem.W.mg_of X G a_row_of, k_row_of, b_row_of⟩
  have G_number_of : OwnF l.prog w K mg base "number_of" 1 ["word"] sp_number_of := ⟨_, _, ok_number_of F_number_of B (PySem.W.mg_of X G v_FIGURES), PySem.W.mg_of X G a_number_of, k_number_of, b_number_of⟩
  have G_deed_of : OwnF l.prog w K mg base "deed_of" 2 ["row"] (sp_deed_of K) := ⟨_, _, ok_deed_of F_deed_of B G_number_of, PySem.W.mg_of X G a_deed_of, k_deed_of, b_deed_of⟩
  have G_written : OwnF l.prog w K mg base "written" 5 ["deeds"] (sp_written K) := ⟨_, _, ok_written F_written G_check_deeds G_row_of, PySem.W.mg_of X G a_written, k_written, b_written⟩
  have G_read : OwnF l.prog w K mg base "read" 4 ["text"] (sp_readV K) := ⟨_, _, ok_readV F_read B (PySem.W.mg_of X G v_MOST_DEEDS) G_deed_of G_is_deed, PySem.W.mg_of X G a_read, k_read, b_read⟩
  have G_law_text : OwnF l.prog w K mg base "_law_text" 1 ["_law_deed"] (sp_law_text K) := ⟨_, _, ok_law_text F_law_text B, PySem.W.mg_of X G a_law_text, k_law_text, b_law_text⟩
  have G_law_steps : OwnF l.prog w K mg base "_law_steps" 3 ["_law_row", "_law_most"] (sp_law_steps K) := ⟨_, _, ok_law_steps F_law_steps B G_law_taken G_law_number, PySem.W.mg_of X G a_law_steps, k_law_steps, b_law_steps⟩
  exact ok_law B ⟨G_law_taken, G_alikeD, G_law_steps, G_law_text, G_written, G_read⟩ F_law
theorem walk {l : PySem.W.OpenLaw} {q : Program} {loose : List Str} {XP : (Str → Option Value) → Heap → Prop} {YP : World → Heap → Prop} {d : DefRec} {K : Params → PySem.W.Frag} (hn : l.most = some 63) (hdf : d.params.defaults = [])
    (hY : ∀ (w : World) (h : Heap), YP w h → (K w.params).In h)
    (F : ∀ (w : World) (mg : Str → Option Value) (fa : Addr) (h : Heap), (K w.params).In h → h.Ns mainGlobals mg → mg d.name = some (.ref fa) →
      ∃ fd : FuncData, (∀ (s : Shared) (u : Value), BindsTo s fd ⟨[u], []⟩ [("_law_script", u)]) ∧ ∀ base : Heap, (K w.params).In base → base.Ns mainGlobals mg → FnOk l.prog w (K w.params) mg base CX0 6 fa fd ["_law_script"] (sp_law (K w.params))) :
    PySem.W.WalkO q loose XP YP l.row.toRowW d [] (fun f vs => PySem.call f vs) :=
  L2.walk_of (n := 63) (k := 6) (x := "_law_script") (CX := fun _ => CX0) (sp := fun w => sp_law (K w.params)) hn (by decide) hdf ⟨rfl, by decide, by decide⟩ hY F (fun _ _ a ns hl _ hS => ⟨a, ns, rfl, hS, hl, fun _ => rfl⟩) fun _ _ _ _ _ z => z
end Mx

open PySem PySem.W PyProof.Rows
set_option maxRecDepth 100000 in
set_option maxHeartbeats 0 in
theorem PySem.Challenge.cw_mixserver_k18_written_and_read_holds : PySem.Challenge.rw_mixserver_k18_written_and_read.Holds := by
  w_on; o_law; k_head; (case hw => w_witness2)
  k_fill
  refine Mx.walk (l := PySem.Challenge.rw_mixserver_k18_written_and_read) rfl rfl (fun w h Y => PySem.W.kIn_of Y) ?F
  case F =>
    intro w mg fa h KX G hmg
    refine' Mx.all_mk KX G hmg ?a_is_whole ?l_is_whole ?c_is_whole ?k_is_whole ?a_law_taken ?l_law_taken ?c_law_taken ?k_law_taken ?a_law_number ?l_law_number ?c_law_number ?k_law_number ?a_law_alike ?l_law_alike ?c_law_alike ?k_law_alike ?a_are_plain ?l_are_plain ?c_are_plain ?k_are_plain ?a_is_parcel ?l_is_parcel ?c_is_parcel ?k_is_parcel ?a_is_deed ?l_is_deed ?c_is_deed ?k_is_deed ?a_check_deeds ?l_check_deeds ?c_check_deeds ?k_check_deeds ?a_word_of ?l_word_of ?c_word_of ?k_word_of ?a_row_of ?l_row_of ?c_row_of ?k_row_of ?a_number_of ?l_number_of ?c_number_of ?k_number_of ?a_deed_of ?l_deed_of ?c_deed_of ?k_deed_of ?a_written ?l_written ?c_written ?k_written ?a_read ?l_read ?c_read ?k_read ?a_law_text ?l_law_text ?c_law_text ?k_law_text ?a_law_steps ?l_law_steps ?c_law_steps ?k_law_steps ?a_law ?l_law ?c_law ?k_law ?z_isinstance ?z_bool ?z_int ?z_tuple ?z_len ?z_all ?z_any ?z_min ?z_max ?z_divmod ?z_enumerate ?z_sorted ?z_list ?z_range ?z_abs ?z_str ?v_MOST_DEEDS ?v_FIGURES ?v_PARTS ?l_PARTS ?m_PARTS ?q_PARTS ?y_PARTS ?p_add ?p_parcel ?p_end ?p_lead ?p_hush ?p_wake ?p_beat
    (case a_is_whole => k_is)
    (case l_is_whole => k_is)
    (case c_is_whole => k_is)
    (case k_is_whole => k_is)
    (case a_law_taken => k_is)
    (case l_law_taken => k_is)
    (case c_law_taken => k_is)
    (case k_law_taken => k_is)
    (case a_law_number => k_is)
    (case l_law_number => k_is)
    (case c_law_number => k_is)
    (case k_law_number => k_is)
    (case a_law_alike => k_is)
    (case l_law_alike => k_is)
    (case c_law_alike => k_is)
    (case k_law_alike => k_is)
    (case a_are_plain => k_is)
    (case l_are_plain => k_is)
    (case c_are_plain => k_is)
    (case k_are_plain => k_is)
    (case a_is_parcel => k_is)
    (case l_is_parcel => k_is)
    (case c_is_parcel => k_is)
    (case k_is_parcel => k_is)
    (case a_is_deed => k_is)
    (case l_is_deed => k_is)
    (case c_is_deed => k_is)
    (case k_is_deed => k_is)
    (case a_check_deeds => k_is)
    (case l_check_deeds => k_is)
    (case c_check_deeds => k_is)
    (case k_check_deeds => k_is)
    (case a_word_of => k_is)
    (case l_word_of => k_is)
    (case c_word_of => k_is)
    (case k_word_of => k_is)
    (case a_row_of => k_is)
    (case l_row_of => k_is)
    (case c_row_of => k_is)
    (case k_row_of => k_is)
    (case a_number_of => k_is)
    (case l_number_of => k_is)
    (case c_number_of => k_is)
    (case k_number_of => k_is)
    (case a_deed_of => k_is)
    (case l_deed_of => k_is)
    (case c_deed_of => k_is)
    (case k_deed_of => k_is)
    (case a_written => k_is)
    (case l_written => k_is)
    (case c_written => k_is)
    (case k_written => k_is)
    (case a_read => k_is)
    (case l_read => k_is)
    (case c_read => k_is)
    (case k_read => k_is)
    (case a_law_text => k_is)
    (case l_law_text => k_is)
    (case c_law_text => k_is)
    (case k_law_text => k_is)
    (case a_law_steps => k_is)
    (case l_law_steps => k_is)
    (case c_law_steps => k_is)
    (case k_law_steps => k_is)
    (case a_law => k_is)
    (case l_law => k_is)
    (case c_law => k_is)
    (case k_law => k_is)
    (case z_isinstance => k_is)
    (case z_bool => k_is)
    (case z_int => k_is)
    (case z_tuple => k_is)
    (case z_len => k_is)
    (case z_all => k_is)
    (case z_any => k_is)
    (case z_min => k_is)
    (case z_max => k_is)
    (case z_divmod => k_is)
    (case z_enumerate => k_is)
    (case z_sorted => k_is)
    (case z_list => k_is)
    (case z_range => k_is)
    (case z_abs => k_is)
    (case z_str => k_is)
    (case v_MOST_DEEDS => k_is)
    (case v_FIGURES => k_is)
    (case v_PARTS => k_is)
    (case l_PARTS => k_is)
    (case m_PARTS => exact ⟨_, _, _, _, _, _, _, rfl⟩)
    (case q_PARTS => exact ⟨⟨_, _, rfl, rfl⟩, ⟨_, _, rfl, rfl⟩, ⟨_, _, rfl, rfl⟩, ⟨_, _, rfl, rfl⟩, ⟨_, _, rfl, rfl⟩, ⟨_, _, rfl, rfl⟩, ⟨_, _, rfl, rfl⟩, trivial⟩)
    (case y_PARTS => rfl)
    (case p_add => k_is)
    (case p_parcel => k_is)
    (case p_end => k_is)
    (case p_lead => k_is)
    (case p_hush => k_is)
    (case p_wake => k_is)
    (case p_beat => k_is)
#print axioms PySem.Challenge.cw_mixserver_k18_written_and_read_holds

