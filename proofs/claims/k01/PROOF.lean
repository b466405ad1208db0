import PyProof.Rows.All
import Wide.All
import OpenK.AllK
import Wide.FinOn
import HandS.ForMost
import HandS.AnyAll
import HandS.EndBits
import HandS.EndTab
import HandS.More
import HandS.IsInst
import HandS.Evl
import HandS.Walk
import PySem.Challenge.RW_cuehall_k01_kinds
set_option Elab.async false
set_option linter.all false
set_option maxRecDepth 100000
set_option maxHeartbeats 2000000
/-! all, any of a generator expression over a text whose element may call a small def; the table of code objects is tracked by its word alone, so that the abstract heap stays as it is -/
namespace GX
open PySem PySem.Spec PyProof.Rows L2
/-- a table of code objects stands at P -/
def TabP (P : Addr) (h : Heap) : Prop := ∃ tb : Array Value, h.get? P = some { cls := .none, data := .fields tb } ∧ TriplesOk tb.toList
abbrev TabX (H : Hp) (P : Addr) : Prop := H P = some (HO.ext (TabP P))
theorem tabP_ok {Pr : Program} {w : World} {H : Hp} {h : Heap} {P : Addr} (t : TabP P h) : ObjOk Pr w H h P (HO.ext (TabP P)) :=
  ⟨t, let ⟨_, e, _⟩ := t; ⟨_, e⟩, fun _ _ ⟨tb, e, q⟩ k => ⟨tb, k _ e, q⟩⟩
section
variable {X : Cx} {pins : List (Addr × Obj)} {σ : L2.St} {H : Hp} {s : Shared}
/-- the table at P may have grown, all else that stood is kept -/
theorem inv_grown {P : Addr} {h2 : Heap} {gs : Array GenState} {dr : Drawn} {tk : Nat} (I : Inv X pins σ H s) (hP : TabX H P)
    (keep : ∀ b o, b ≠ P → s.heap.get? b = some o → h2.get? b = some o) (tab : TabP P h2) (bare : AllBare gs) :
    Inv X pins σ H { s with heap := h2, gens := gs, drawn := dr, toks := tk } := by
  have apart : ∀ {b : Addr}, H b = none → b ≠ P := fun {b} n z => by
    rw [z, hP] at n
    cases n
  have apartO : ∀ {b x : Addr}, H b = some (.own x) → b ≠ P := fun {b x} n z => by
    rw [z, hP] at n
    cases n
  refine I.step (g' := gs) (d' := dr) (t' := tk) (ch := []) (fun b hb => nomatch hb) (fun b o _ _ _ e n => keep b o (apart n) e)
    (fun b o _ _ _ e n => ⟨o.slots, keep b o (apart n) e⟩) (fun _ _ _ _ n => n) (fun b o _ e => ?_) (fun _ _ q => q) (fun _ _ _ q => q)
    (fun b tb q => ⟨#[], by rw [q, Array.append_empty]⟩) (fun m hn => ?_) (fun b u e => ?_) bare
  · by_cases z : b = P
    · obtain ⟨tb, q, _⟩ := tab
      exact ⟨_, by rw [z]; exact q⟩
    · exact ⟨o, keep b o z e⟩
  · obtain ⟨ob, es, ep, e, r⟩ := hn
    exact ⟨ob, es, ep, keep _ ob (apart I.free) e, r⟩
  · by_cases z : b = P
    · have e2 : some u = some (HO.ext (TabP P)) := e.symm.trans (by rw [z]; exact hP)
      rw [z, Option.some.inj e2]
      exact tabP_ok tab
    · refine (I.hok b u e).stay (fun c v hc q => keep c v ?_ q) (fun _ q => q) fun _ _ q => q
      rcases hc with y | y
      · rw [y]; exact z
      · exact apartO y
/-- the element, a test of the sign c; it may call: A' has some room, the module's things stand -/
def EltC (X : Cx) (scope : Scope) (x : Str) (elt : Expr) (pb : Nat → Bool) : Prop :=
  ∀ (cenv : Env) (A' : Around) (E' : Value → Shared → Prop) (c : Nat) (t : Tok) (s2 : Shared) (m2 : Str → Option Value), cenv.scope = scope → cenv.globals = mainGlobals → cenv.builtins = builtinsNs →
    L2.Mod X.K X.mg X.base → A'.handled = none → A'.depth ≤ X.A.depth + 1 → A'.units ≤ X.A.units + 8 → (∀ b o, X.base.get? b = some o → s2.heap.get? b = some o) → s2.heap.Ns cenv.locals m2 → m2 x = some (.str ⟨#[c]⟩ t) →
    wpAny (model X.prog X.w) A' (eval elt cenv) (fun y s3 => y = .bool (pb c) ∧ Keeps s2 s3) E' s2
/-- the generator g over the signs of a, ready to be drawn from -/
def ReadyX (X : Cx) (pins : List (Addr × Obj)) (σ : L2.St) (H1 : Hp) (a : Str) (pb : Nat → Bool) (g : Addr) (s5 : Shared) : Prop :=
  ∃ (fp wr : List Addr) (G : Array GenState → Array GenState → Prop) (F : Nat → Value → Prop) (Stn : Nat → Shared → Prop),
    WalksS X.prog X.w X.A.in1 g fp wr G a.cps.size F Stn ∧ Stn 0 s5 ∧ TruthOf X.prog X.w X.A.in1 F (GxR.trF pb a.cps.toList) ∧ ∀ s6, Moved wr G s5 s6 → Inv X pins σ H1 s6
theorem gen_ready {c P : Addr} {elt iter : Expr} {x : Str} {px gpos : Pos} {scope : Scope} {pb : Nat → Bool} {te : TE} {k : Nat} {Z : Value → Shared → Prop} {R : Str → Hp → Prop}
    (hr : Room k X.A) (TB : GxR.TabB X.base X.mg c P) (hcode : X.env.code = .ref c) (S : GxR.GenS X.env scope x) (hi : PE X iter te) (hel : EltC X scope x elt pb) (hs : ∀ v, genFold iter X.env v = pure v)
    (I : Inv X pins σ H s) (h : te σ H fun v H1 => ∃ a : Str, v = .str a ∧ TabX H1 P ∧ R a H1) (hZ : ∀ a H1 g s5, R a H1 → ReadyX X pins σ H1 a pb g s5 → Z (.ref g) s5) :
    wpAny (model X.prog X.w) X.A (eval (.GeneratorExp elt [⟨.Name x px, iter, [], 0⟩] scope gpos) X.env) Z X.xe s := by
  have room : X.A.depth < recursionLimit := hr.depth
  refine wpAny_GeneratorExp_walksQD hr.hd S.co (closure_ok S.free) S.cell S.dot S.loc S.kind room ?_ hs
  refine thn (hi.run pins s σ H _ I h) fun xv s1 ⟨v, H1, I1, rv, q⟩ => ?_
  obtain ⟨a, rfl, hP, q⟩ := q
  obtain ⟨t, rfl⟩ := _root_.id rv
  refine wpAny_pyIter_str fun ob Stw W hst => ?_
  obtain ⟨⟨tb, eP, htr⟩, _, _⟩ : ObjOk X.prog X.w H1 s1.heap P (HO.ext (TabP P)) := I1.hok P _ hP
  have ltP : P < s1.heap.objs.size := Heap.lt_size eP
  have pushed : ∀ {b : Addr} {o : Obj}, s1.heap.get? b = some o → (s1.heap.push ob).get? b = some o := fun e => Heap.get?_push_of_some _ e
  have sz : (s1.heap.push ob).objs.size = s1.heap.objs.size + 1 := Heap.size_push ..
  have cd : PySem.W.CodeHd (s1.heap.push ob) c P := TB.code.keeps fun b o e => pushed (I1.bk b o e)
  have lim : (s1.heap.push ob).NoLimit := I1.nolimit.push ob
  have notP : ∀ b o, X.base.get? b = some o → b ≠ P := fun b o e z => by
    have n := (I1.bs b o e).2
    rw [z, hP] at n
    cases n
  have rest : ∀ (code : Value) (h3 : Heap) (tk : Nat) (tb3 : Array Value), Heap.ExtBut P (s1.heap.push ob) h3 → (s1.heap.push ob).objs.size ≤ h3.objs.size → h3.get? P = some { cls := .none, data := .fields tb3 } → TriplesOk tb3.toList →
      wpAny (model X.prog X.w) X.A (builtinsFor X.env.globals X.env.builtins) (fun bi s4 =>
        ∃ Ia fp wr n0 Pf St0 pz F, Value.ref s1.heap.objs.size = .ref Ia ∧ (∀ A' : Around, A'.handled = none → Walks X.prog X.w A' Ia fp wr n0 Pf St0) ∧ St0 0 s4.heap ∧ (∀ b ∈ fp, b < s4.heap.objs.size) ∧ s4.heap.NoLimit ∧ cStatics ∉ wr ∧
          (∀ href : Heap, (∀ b o, s4.heap.get? b = some o → href.get? b = some o) →
            QuietGenD X.prog X.w (genEnv scope (cloFrom X.env.cells scope.names []) s4.heap.objs.size code bi X.env) x [] elt (List.range s4.heap.objs.size) wr Pf pz F href (X.A.depth + 1) (X.A.units + 8)) ∧
          (∀ b h5 tk5 gs, gs.bare = true → s4.heap.objs.size < b → h5.objs.size = b + 1 → (∀ d o, s4.heap.get? d = some o → h5.get? d = some o) →
            WalksS X.prog X.w X.A.in4 b (b :: s4.heap.objs.size :: List.range s4.heap.objs.size) (s4.heap.objs.size :: wr) (GenOnlyQ s4.gens.size) (passing pz n0 0).length
              (fun j y => ∃ i, (passing pz n0 0)[j]? = some i ∧ F i y) (GenAt X.prog X.w X.A.in4 b s4.gens.size s4.heap.objs.size (List.range s4.heap.objs.size) wr pz n0 F) →
            GenAt X.prog X.w X.A.in4 b s4.gens.size s4.heap.objs.size (List.range s4.heap.objs.size) wr pz n0 F 0 { s4 with gens := s4.gens.push gs, toks := tk5, heap := h5 } →
            Z (.ref b) { s4 with gens := s4.gens.push gs, toks := tk5, heap := h5 })) X.xe { s1 with heap := h3, toks := tk } := by
    intro code h3 tk tb3 grown size3 tab3 htr3
    obtain ⟨bm, bo, m1, m2, m3, m4, m5, m6, m7, m8⟩ := TB.bm
    have keep3 : ∀ b o, b ≠ P → s1.heap.get? b = some o → h3.get? b = some o := fun b o n e => grown b o n (pushed e)
    have base3 : ∀ b o, X.base.get? b = some o → h3.get? b = some o := fun b o e => keep3 b o (notP b o e) (I1.bk b o e)
    have csP : cStatics ≠ P := fun z => by
      obtain ⟨_, ⟨o, es, ep, ho, hd, _⟩, _⟩ := I1.nolimit
      rw [z, eP] at ho
      cases ho
      cases hd
    have csl : cStatics < s1.heap.objs.size := let ⟨_, hn, _⟩ := I1.nolimit; hn.lt
    have glob3 : h3.Ns X.env.globals X.mg := by rw [I1.ok.glob]; exact I1.mod.glob.keeps base3
    refine wpAny_builtinsFor glob3 m1 m2 (base3 _ _ m5) m6 m7 m8 ?_
    refine ⟨s1.heap.objs.size, [s1.heap.objs.size], [s1.heap.objs.size], a.cps.size, SignAt a, Stw, fun _ => true, fun i y => ∃ cc, a.cps[i]? = some cc ∧ y = .bool (pb cc), rfl, W, ?_, ?_, lim.extBut grown csP, ?_, ?_, ?_⟩
    · refine (W X.A hr.hd).frame _ _ _ hst fun b hb o e => grown b o (fun z => ?_) e
      have z2 : b = s1.heap.objs.size := by simpa using hb
      exact Nat.ne_of_lt ltP (z.symm.trans z2)
    · intro b hb
      have z : b = s1.heap.objs.size := by simpa using hb
      have q9 : (s1.heap.objs.size : Nat) < h3.objs.size := by omega
      rw [z]
      exact q9
    · intro hb
      have z : cStatics = s1.heap.objs.size := by simpa using hb
      exact Nat.ne_of_lt csl z
    · intro href hk
      refine ⟨fun A' E' i v s2 mm hA hD hU hPv hn hm hkp => ?_, fun A' E' i v s2 mm hA hD hU hPv _ hn hm hkp => ?_⟩
      · simp only [List.forIn_nil]
        exact wpAny_pure ⟨rfl, GxR.keeps_refl _⟩
      · obtain ⟨cc, u, hcc, rfl⟩ := hPv
        refine wpAny_mono (hel _ A' E' cc u s2 mm rfl I1.ok.glob rfl I1.mod hA hD hU (fun b o e => ?_) hn hm) (fun y s3 r => ⟨⟨cc, hcc, r.1⟩, r.2⟩) fun _ _ e => e
        have e3 := base3 b o e
        refine hkp b (List.mem_range.mpr (Heap.lt_size e3)) (fun hb => ?_) o (hk b o e3)
        have z : b = s1.heap.objs.size := by simpa using hb
        exact Nat.ne_of_lt (Heap.lt_size (I1.bk b o e)) z
    · intro g h5 tk5 gs hgb hag hsz5 hk5 W5 hat
      simp only [GxR.passing_true, List.length_range] at W5
      refine hZ a H1 g _ q ⟨_, _, _, _, _, W5.in4_1, hat, ?_, fun s6 hm => ?_⟩
      · intro j y sj Qj Ej hy hQj
        obtain ⟨i, hij, cc, hcc, rfl⟩ := hy
        obtain ⟨hj, ej⟩ := List.getElem?_eq_some_iff.mp hij
        rw [List.getElem_range] at ej
        subst ej
        have e9 : a.cps.toList[j]? = some cc := by rw [Array.getElem?_toList]; exact hcc
        have hQ2 : Qj (GxR.trF pb a.cps.toList j) sj := hQj
        rw [GxR.trF_some e9] at hQ2
        exact wpAny_truthy_bool hQ2
      · have far : ∀ b o, s1.heap.get? b = some o → b ∉ h3.objs.size :: [s1.heap.objs.size] := fun b o e hb => by
          have hl := Heap.lt_size e
          have z : b = h3.objs.size ∨ b = s1.heap.objs.size := by simpa using hb
          rcases z with z | z
          · rw [z] at hl
            have h9 : (h3.objs.size : Nat) < s1.heap.objs.size := hl
            omega
          · rw [z] at hl
            exact Nat.lt_irrefl _ hl
        have J := inv_grown (h2 := s6.heap) (gs := s6.gens) (dr := s6.drawn) (tk := s6.toks) I1 hP (fun b o n e => hm.heap b o (far b o e) (hk5 b o (keep3 b o n e))) ⟨tb3, hm.heap P _ (far P _ eP) (hk5 P _ tab3), htr3⟩ (AllBare.movedS (I1.bare.push hgb) hm)
        rw [GxR.sh_eta s1 s6 hm.os] at J
        exact J
  refine ⟨lim, ?_⟩
  cases hf : codeAmong gpos tb.toList with
  | none =>
    refine wpAny_genexprCodeX hcode (cd.code (pushed eP) htr) (cd.tab (pushed eP)) hf fun c2 h3 tk hx hge hlt hco2 _ htab2 _ => ?_
    obtain ⟨o1, vs, f1, tf, fl, tg, inF, tx, tt, op, _, _, _, _, _, _, _, _, _, htr2, _⟩ := hco2
    exact rest _ h3 tk _ hx (Nat.le_trans hge (Nat.le_of_lt hlt)) htab2.2 htr2
  | some cv =>
    refine wpAny_genexprCode_hit hcode (cd.code (pushed eP) htr) hf ?_
    exact rest cv (s1.heap.push ob) s1.toks tb (Heap.ExtBut.refl _ _) (Nat.le_refl _) (pushed eP) htr
/-- all(test for x in e), any(..): e a text; the abstract heap stays -/
def tAllX (P : Addr) (pb : Nat → Bool) (te : TE) : TE := fun σ H Q => te σ H fun v H1 => ∃ a : Str, v = .str a ∧ TabX H1 P ∧ Q (.bl (a.cps.toList.all pb)) H1
def tAnyX (P : Addr) (pb : Nat → Bool) (te : TE) : TE := fun σ H Q => te σ H fun v H1 => ∃ a : Str, v = .str a ∧ TabX H1 P ∧ Q (.bl (a.cps.toList.any pb)) H1
theorem pe_allX {c P : Addr} {elt iter : Expr} {x : Str} {px p pos gpos : Pos} {scope : Scope} {pb : Nat → Bool} {te : TE} {k : Nat} (hr : Room k X.A) (hg : Gl X "all") (hm : X.mg "all" = none)
    (TB : GxR.TabB X.base X.mg c P) (hcode : X.env.code = .ref c) (S : GxR.GenS X.env scope x) (hi : PE X iter te) (hel : EltC X scope x elt pb) (hs : ∀ v, genFold iter X.env v = pure v)
    (he : starEach [.GeneratorExp elt [⟨.Name x px, iter, [], 0⟩] scope gpos] X.env = (false, eval (.GeneratorExp elt [⟨.Name x px, iter, [], 0⟩] scope gpos) X.env) :: starEach [] X.env := by rfl) :
    PE X (.Call (.Name "all" p) [.GeneratorExp elt [⟨.Name x px, iter, [], 0⟩] scope gpos] [] pos) (tAllX P pb te) := by
  refine ⟨fun pins s σ H Q I h => wpAny_Call_Name_kw (ld_blt I hg hm (by decide +kernel : bootBuiltins "all" = some (.builtin "all")) (PyProof.Rows.callWith_builtin1 ?_ he (by rfl)))⟩
  rw [he]
  refine Calls.spliced_cons (gen_ready (R := fun a H1 => Q (.bl (a.cps.toList.all pb)) H1) hr TB hcode S hi hel hs I h fun a H1 g s5 hR ⟨fp, wr, G, F, Stn, W, hst, htr, hI⟩ => Calls.spliced_nil ?_)
  refine call_all_walkS (W.self 0 _ _ _ hst ⟨g, fp, wr, G, _, F, Stn, _, rfl, W, hst, htr, fun s6 hmv => ⟨.bl _, H1, hI s6 hmv, rfl, ?_⟩⟩)
  rw [GxR.all_signs a pb]
  exact hR
theorem pe_anyX {c P : Addr} {elt iter : Expr} {x : Str} {px p pos gpos : Pos} {scope : Scope} {pb : Nat → Bool} {te : TE} {k : Nat} (hr : Room k X.A) (hg : Gl X "any") (hm : X.mg "any" = none)
    (TB : GxR.TabB X.base X.mg c P) (hcode : X.env.code = .ref c) (S : GxR.GenS X.env scope x) (hi : PE X iter te) (hel : EltC X scope x elt pb) (hs : ∀ v, genFold iter X.env v = pure v)
    (he : starEach [.GeneratorExp elt [⟨.Name x px, iter, [], 0⟩] scope gpos] X.env = (false, eval (.GeneratorExp elt [⟨.Name x px, iter, [], 0⟩] scope gpos) X.env) :: starEach [] X.env := by rfl) :
    PE X (.Call (.Name "any" p) [.GeneratorExp elt [⟨.Name x px, iter, [], 0⟩] scope gpos] [] pos) (tAnyX P pb te) := by
  refine ⟨fun pins s σ H Q I h => wpAny_Call_Name_kw (ld_blt I hg hm boot_any (PyProof.Rows.callWith_builtin1 ?_ he (by rfl)))⟩
  rw [he]
  refine Calls.spliced_cons (gen_ready (R := fun a H1 => Q (.bl (a.cps.toList.any pb)) H1) hr TB hcode S hi hel hs I h fun a H1 g s5 hR ⟨fp, wr, G, F, Stn, W, hst, htr, hI⟩ => Calls.spliced_nil ?_)
  refine call_any_walkS (W.self 0 _ _ _ hst ⟨g, fp, wr, G, _, F, Stn, _, rfl, W, hst, htr, fun s6 hmv => ⟨.bl _, H1, hI s6 hmv, rfl, ?_⟩⟩)
  rw [GxR.any_signs a pb]
  exact hR
theorem gens_mk {env : Env} {scope : Scope} {x : Str} (h1 : scope.kind = .function) (h2 : scope.isCoroutine = false) (h3 : (scope.names.all fun y => y.2 != .cell && y.2 != .free) = true) (h4 : scope.names.lookup (".0" : Str) = some NameKind.local)
    (h5 : scope.names.lookup x = some .local) : GxR.GenS env scope x := by
  rw [List.all_eq_true] at h3
  refine ⟨h1, h2, fun y hy e => ?_, h4, h5, fun y hy e => ?_⟩
  · have := h3 y hy
    rw [e] at this
    exact absurd this (by decide)
  · have := h3 y hy
    rw [e] at this
    exact absurd this (by decide)
/-- a def f of one sign, a test: whoever calls it, whatever runs around -/
def SmallD (Pr : Program) (w : World) (K : PySem.W.Frag) (f : Addr) (pb : Nat → Bool) : Prop :=
  ∀ (A : Around) (s : Shared) (c : Nat) (t : Tok), A.handled = none → A.depth < recursionLimit → K.In s.heap → s.heap.NoLimit →
    codeAny (model Pr w) A (.call (.ref f) ⟨[.str ⟨#[c]⟩ t], []⟩) (fun r s3 => r = .ok (.ret (.bool (pb c))) ∧ Keeps s s3) s
theorem elt_call {scope : Scope} {x fn : Str} {f : Addr} {pb : Nat → Bool} {p1 p2 p3 : Pos} {k : Nat} (D : SmallD X.prog X.w X.K f pb) (hr : Room k X.A) (hm : X.mg fn = some (.ref f)) (hk : PySem.W.keepIn X.K (.ref f) = true)
    (sk : scope.kind = .function) (sx : scope.names.lookup x = some .local) (sf : scope.names.lookup fn = some .globalImplicit) (dx : (x == ("__debug__" : Str)) = false := by decide) (df : (fn == ("__debug__" : Str)) = false := by decide) :
    EltC X scope x (.Call (.Name fn p1) [.Name x p2] [] p3) pb := by
  intro cenv A' E' c t s2 m2 hs hg hb M hA hD _ hk2 hn hx
  have kin : X.K.In s2.heap := M.kin.keeps hk2
  have lim : s2.heap.NoLimit := M.nolimit.keeps hk2
  have kf : cenv.scope.kind = .function := by rw [hs]; exact sk
  refine wpAny_Call_Name_kw (Calls.Name_function_global kf (by show cenv.scope.names.lookup fn = _; rw [hs]; exact sf) (Calls.loadGlobal_global (by rw [hg]; exact M.glob.keeps hk2) hm ?_) df)
  refine PySem.W.callWith_K (h₀ := X.base) M.kin hk (args_cons ?_)
  refine wpAny_Name (wpAny_loadName_local kf (by show cenv.scope.names.lookup x = _; rw [hs]; exact sx) hn hx (args_nil ⟨kin, ?_⟩)) dx
  refine wpAny_call (codeAny_mono (D A' s2 c t hA (Nat.lt_of_le_of_lt hD (by have := hr.dp; omega)) kin lim) fun r s3 h => ?_)
  obtain ⟨rfl, h⟩ := h
  exact ⟨rfl, h⟩
end
end GX

/-! the end of a law's row where tables of code objects are tracked by their word (GX.TabX) -/
namespace LX
open PySem PySem.Spec PyProof.Rows L2 GX
/-- the heap at the law's entry: the tables by their word, the script as it lies (unless the written part has it) -/
def H0 (K : PySem.W.Frag) (tabs : List Addr) (a : Addr) (ob : Obj) (xs : List V) : Hp := fun b =>
  if b ∈ tabs then some (.ext (TabP b)) else if b = a ∧ K.lookup a = none then some (.frz ob (.lst xs)) else none
theorem law_run {P : Program} {w : World} {K : PySem.W.Frag} {mg mb : Str → Option Value} {k : Nat} {fa a : Addr} {cs : List (Addr × Addr)} {fd : FuncData} {x : Str} {sp : Sp} {s : Shared} {vs : List Value} {ns : List Int}
    (KX : K.In s.heap) (hns : s.heap.Ns mainGlobals mg) (hb : s.heap.Ns builtinsNs mb) (hbb : ∀ y : Str, y ≠ "__name__" → mb y = bootBuiltins y) (hlim : s.heap.NoLimit) (hg : s.gens = #[])
    (hT : ∀ p ∈ cs, s.heap.get? p.2 = some { cls := .none, data := .fields #[] }) (nT : ∀ p ∈ cs, K.lookup p.2 = none) (C : ∀ p ∈ cs, PySem.W.CodeHd s.heap p.1 p.2)
    (hbm : ∃ (bm : Addr) (ob : Obj), mg "__builtins__" = some (.ref bm) ∧ bm ≠ builtinsNs ∧ s.heap.get? bm = some ob ∧ ob.cls = .type "module" ∧ ob.dict = some builtinsNs ∧ ob.data = .plain)
    (ha : s.heap.get? a = some { cls := .type "list", data := .seq vs.toArray }) (hi : IntsAre vs ns) (hl : ns.length ≤ sizeLine) (hr : Room k callerA)
    (F : ∀ base : Heap, L2.Mod K mg base → (∀ p ∈ cs, GxR.TabB base mg p.1 p.2) → FnOk P w K mg base CX0 k fa fd [x] sp) (hbind : ∀ (s : Shared) (u : Value), BindsTo s fd ⟨[u], []⟩ [(x, u)])
    (hsp : ∀ H : Hp, (∀ p ∈ cs, TabX H p.2) → SqL K H a (ns.map V.int) → sp [.ref a] H (fun v H' => v = .bl true ∧ ∀ p ∈ cs, H' p.2 = H p.2) fun _ _ _ => False) :
    codeAny (model P w) callerA (.call (.ref fa) ⟨[.ref a], []⟩) (fun r s' => r = .ok (.ret (.bool true)) ∧ OldK s.heap s'.heap ∧ s'.os = s.os ∧ AllBare s'.gens) s := by
  have rv := vals_ints hi
  -- the script, the tables: what they are in s
  have tabE : ∀ b ∈ cs.map (·.2), s.heap.get? b = some { cls := .none, data := .fields #[] } ∧ K.lookup b = none := fun b hb => by
    obtain ⟨p, hp, rfl⟩ := List.mem_map.mp hb
    exact ⟨hT p hp, nT p hp⟩
  have aN : a ∉ cs.map (·.2) := fun z => by
    have q := (tabE a z).1.symm.trans ha
    cases q
  obtain ⟨H, hH⟩ : ∃ H, H = H0 K (cs.map (·.2)) a { cls := .type "list", data := .seq vs.toArray } (ns.map V.int) := ⟨_, rfl⟩
  have atT : ∀ p ∈ cs, TabX H p.2 := fun p hp => by
    show H p.2 = _
    rw [hH]
    exact if_pos (List.mem_map.mpr ⟨p, hp, rfl⟩)
  have only : ∀ b u, H b = some u → (b ∈ cs.map (·.2) ∧ u = .ext (TabP b)) ∨ (b = a ∧ K.lookup a = none ∧ u = .frz { cls := .type "list", data := .seq vs.toArray } (.lst (ns.map V.int))) := fun b u e => by
    rw [hH] at e
    unfold H0 at e
    by_cases h1 : b ∈ cs.map (·.2)
    · rw [if_pos h1] at e
      exact .inl ⟨h1, (Option.some.inj e).symm⟩
    · rw [if_neg h1] at e
      by_cases h2 : b = a ∧ K.lookup a = none
      · rw [if_pos h2] at e
        exact .inr ⟨h2.1, h2.2, (Option.some.inj e).symm⟩
      · rw [if_neg h2] at e
        cases e
  -- what stands in s and is neither a list nor an empty record is not tracked
  have free : ∀ {b : Addr} {o : Obj}, s.heap.get? b = some o → (∀ its n, o.data ≠ .seq its n) → o.data ≠ .fields #[] → H b = none := fun {b o} e n1 n2 => by
    cases q : H b with
    | none => rfl
    | some u =>
      rcases only b u q with ⟨hb1, _⟩ | ⟨rfl, _⟩
      · rw [(tabE b hb1).1] at e
        cases e
        exact absurd rfl n2
      · rw [ha] at e
        cases e
        exact absurd rfl (n1 _ _)
  have freeK : ∀ b o, K.lookup b = some o → H b = none := fun b o e => by
    cases q : H b with
    | none => rfl
    | some u =>
      rcases only b u q with ⟨hb1, _⟩ | ⟨rfl, n, _⟩
      · rw [(tabE b hb1).2] at e
        cases e
      · rw [n] at e
        cases e
  have nsB : ∀ {b : Addr} {m : Str → Option Value}, s.heap.Ns b m → (hidT s.heap H).Ns b m := fun {b m} ⟨o, es, ep, e, d, r⟩ =>
    ⟨o, es, ep, hidT_get e (free e (fun its n z => by rw [d] at z; cases z) fun z => by rw [d] at z; cases z), d, r⟩
  have inB : K.In (hidT s.heap H) := fun b o e => hidT_get (KX b o e) (freeK b o e)
  have hM : L2.Mod K mg (hidT s.heap H) := ⟨inB, nsB hns, ⟨mb, nsB hb, hbb⟩, let ⟨mc, h1, h2⟩ := hlim; ⟨mc, nsB h1, h2⟩⟩
  have TB : ∀ p ∈ cs, GxR.TabB (hidT s.heap H) mg p.1 p.2 := fun p hp => by
    refine ⟨?_, ?_, fun z => ?_⟩
    · obtain ⟨o, us, file, tf, flags, tg, inF, text, tt, e1, r1, r2, r3, r⟩ := C p hp
      refine ⟨o, us, file, tf, flags, tg, inF, text, tt, hidT_get e1 (free e1 (fun its n z => by rw [r2] at z; cases z) fun z => ?_), r1, r2, r3, r⟩
      rw [r2] at z
      cases z
      simp at r3
    · obtain ⟨bm, ob, b1, b2, b3, b4, b5, b6⟩ := hbm
      have plain : ∀ {m : Addr}, m = bm → ∀ {o : Obj}, s.heap.get? m = some o → o.data = .plain := fun {m} z {o} e => by
        rw [z, b3] at e
        cases e
        exact b6
      refine ⟨bm, ob, b1, b2, fun q => ?_, fun q => ?_, hidT_get b3 (free b3 (fun its n z => by rw [b6] at z; cases z) fun z => by rw [b6] at z; cases z), b4, b5, b6⟩
      · obtain ⟨o, es, ep, e, hd, _⟩ := hns
        have := plain q.symm e
        rw [hd] at this
        cases this
      · have := plain q.symm (hT p hp)
        cases this
    · obtain ⟨o, es, ep, e, hd, _⟩ := hns
      rw [z, hT p hp] at e
      cases e
      cases hd
  have hok : HOk P w H s.heap := fun b u e => by
    rcases only b u e with ⟨h1, rfl⟩ | ⟨rfl, _, rfl⟩
    · exact tabP_ok ⟨#[], (tabE b h1).1, (show TriplesOk [] from True.intro)⟩
    · exact ⟨ha, by rw [List.length_map]; exact hl, vs, _, rv, ha⟩
  have hS : SqL K H a (ns.map V.int) := by
    cases hk : K.lookup a with
    | none =>
      refine .inl (.inr ⟨{ cls := .type "list", data := .seq vs.toArray }, ?_⟩)
      rw [hH]
      exact (if_neg aN).trans (if_pos ⟨rfl, hk⟩)
    | some o =>
      have e := (KX a o hk).symm.trans ha
      cases e
      exact .inr ⟨_, vs.toArray, _, hk, rfl, rfl, rfl, by rw [List.size_toArray, hi.length]; exact hl, by simpa using rv⟩
  have e0 : Env0 P w K mg (hidT s.heap H) callerA [] s H := ⟨rfl, hM, fun b o e => of_hidT e, Nat.le_of_eq (hidT_size _ _), trivial, fun b hb => absurd (show b ∈ ([] : List Addr) from hb) (by simp), hok, .of_eq hg⟩
  refine codeAny_mono ((F _ hM TB).run callerA [] s H ⟨[.ref a], []⟩ [.ref a] [.ref a] _ _ hr e0 (hbind s (.ref a)) (.cons rfl .nil) (hsp H atT hS)) fun r s' h => ?_
  cases r with
  | error e => exact h.elim
  | ok fl =>
    cases fl with
    | next => exact False.elim h
    | brk => exact False.elim h
    | cont => exact False.elim h
    | ret u =>
      obtain ⟨v, H', os, bare, un, hok', r', q, qT⟩ := h
      subst q
      obtain rfl : u = Value.bool true := r'
      have rest : ∀ b o, b ∉ cs.map (·.2) → s.heap.get? b = some o → s'.heap.get? b = some o := fun b o nb e => by
        cases q : H b with
        | none => exact un.keep b o e q (by intro z; exact absurd (show b ∈ ([] : List Addr) from z) (by simp)) (by simp)
        | some u =>
          rcases only b u q with ⟨h1, _⟩ | ⟨rfl, _, rfl⟩
          · exact absurd h1 nb
          · have e1 := (hok b _ q).1
            rw [e] at e1
            cases e1
            exact (hok' b _ (un.frzs b _ _ q)).1
      have grown : ∀ p ∈ cs, ∃ tb : Array Value, s'.heap.get? p.2 = some { cls := .none, data := .fields tb } := fun p hp => by
        have z : H' p.2 = some (.ext (TabP p.2)) := (qT p hp).trans (atT p hp)
        obtain ⟨⟨tb, e, _⟩, _⟩ := hok' p.2 _ z
        exact ⟨tb, e⟩
      refine ⟨rfl, ⟨fun b o e => ?_, fun b o e => ?_⟩, os, bare⟩
      · by_cases hb : b ∈ cs.map (·.2)
        · obtain ⟨p, hp, rfl⟩ := List.mem_map.mp hb
          obtain ⟨tb, hm⟩ := grown p hp
          rw [hT p hp] at e
          cases e
          exact .inr (.inl ⟨((C p hp).tab (hT p hp)).isCodeTable, rfl, #[], tb, rfl, by rw [Array.empty_append]; exact hm⟩)
        · exact .inl (rest b o hb e)
      · by_cases hb : b ∈ cs.map (·.2)
        · obtain ⟨p, hp, rfl⟩ := List.mem_map.mp hb
          obtain ⟨tb, hm⟩ := grown p hp
          exact ⟨_, hm⟩
        · exact ⟨o, rest b o hb e⟩
/-- what is known of the law's promise: the law's def, the tables, its promise -/
def LawAt (l : PySem.W.OpenLaw) (w : World) (K : PySem.W.Frag) (k n : Nat) (x : Str) (mg : Str → Option Value) (fa : Addr) (h : Heap) : Prop :=
  ∃ (fd : FuncData) (cs : List (Addr × Addr)) (sp : Sp), (∀ p ∈ cs, h.get? p.2 = some { cls := .none, data := .fields #[] }) ∧ (∀ p ∈ cs, K.lookup p.2 = none) ∧ (∀ p ∈ cs, PySem.W.CodeHd h p.1 p.2) ∧
    (∀ (s : Shared) (u : Value), BindsTo s fd ⟨[u], []⟩ [(x, u)]) ∧
    (∀ (H : Hp) (a : Addr) (ns : List Int), ns.length ≤ n → (∀ z ∈ ns, Builtin.Int.intBits z ≤ 1048576) → (∀ p ∈ cs, TabX H p.2) → SqL K H a (ns.map V.int) → sp [.ref a] H (fun v H' => v = .bl true ∧ ∀ p ∈ cs, H' p.2 = H p.2) fun _ _ _ => False) ∧
    ∀ base : Heap, L2.Mod K mg base → (∀ p ∈ cs, GxR.TabB base mg p.1 p.2) → FnOk l.prog w K mg base CX0 k fa fd [x] sp
theorem walk {l : PySem.W.OpenLaw} {n k : Nat} {q : Program} {loose : List Str} {XP : (Str → Option Value) → Heap → Prop} {YP : World → Heap → Prop} {d : DefRec} {K : Params → PySem.W.Frag} {x : Str}
    (hn : l.most = some n) (hn2 : n ≤ sizeLine) (hdf : d.params.defaults = []) (hr : Room k callerA) (hY : ∀ (w : World) (h : Heap), YP w h → (K w.params).In h)
    (F : ∀ (w : World) (mg : Str → Option Value) (fa : Addr) (h : Heap), (K w.params).In h → h.Ns mainGlobals mg → mg d.name = some (.ref fa) →
      (∀ (y : Str) (c P : Addr), ((recsOf q).any fun e => e.name == y) = true → PySem.W.tabIn (K w.params) y = some (c, P) → PySem.W.CodeHd h c P ∧ h.get? P = some { cls := .none, data := .fields #[] }) → LawAt l w (K w.params) k n x mg fa h) :
    PySem.W.WalkO q loose XP YP l.row.toRowW d [] (fun f vs => PySem.call f vs) := by
  refine Att.attach_callB hn hdf fun w s0 s1 mg mb fa o pm cd doc a vs ns G Y ho hd hcd hmg hobj hints hlen hbits hg => ?_
  have KX := hY w _ Y
  obtain ⟨fd, cs, sp, hT, nT, C, hb, hsp, hF⟩ := F w mg fa _ KX G.T.g hmg fun y c P hy ht => by
    obtain ⟨dL, hm, hnm⟩ := List.any_eq_true.mp hy
    obtain rfl : dL.name = y := beq_iff_eq.mp hnm
    obtain ⟨f, o2, fd2, c2, P2, h1, h2, h3, h4, h5, h6⟩ := G.T.tab dL hm
    unfold PySem.W.tabIn at ht
    split at ht
    · rename_i f' hf
      have e1 := (PySem.W.mg_of KX G.T.g hf).symm.trans h1
      cases e1
      split at ht
      · rename_i oc od fd' sl hk
        have e2 := (KX _ _ hk).symm.trans h2
        cases e2
        cases h3
        rw [h4] at ht
        dsimp only at ht
        split at ht
        · rename_i e dd us sl2 hc
          split at ht
          · rename_i Pv hv
            cases ht
            have e3 := KX _ _ hc
            obtain ⟨⟨o5, v5, e5, _, e6, e7⟩, hP⟩ := _root_.id h6
            rw [e3] at e5
            cases e5
            cases e6
            rw [hv] at e7
            cases e7
            exact ⟨PySem.W.CodeHd.of h5 h6, hP⟩
          · cases ht
        · cases ht
      · cases ht
    · cases ht
  exact law_run KX G.T.g G.T.b G.T.builtins G.T.nolimit hg hT nT C G.T.bmain hobj hints (Nat.le_trans hlen hn2) hr hF hb fun H hH hS => hsp H a ns hlen hbits hH hS
end LX

/-! words of ours over the layer: a def of the module by its name (Df, Dn), what its call asks, what expressions come to -/
namespace HB
open PySem PySem.Spec PyProof.Rows L2 Evl
/-- the def x of the text stands as a global of the module -/
structure Df (K : PySem.W.Frag) (mg : Str → Option Value) (x qual : Str) (st : Stmt) (ps : List Str) (ds : List Value) : Prop where
  ex : ∃ (f : Addr) (fd : FuncData), mg x = some (.ref f) ∧ Fun K x qual st f fd ∧ Binds K fd ps ds
/-- .. and keeps its promise -/
structure Dn (P : Program) (w : World) (K : PySem.W.Frag) (mg : Str → Option Value) (base : Heap) (x : Str) (k : Nat) (ps : List Str) (sp : Sp) : Prop where
  ex : ∃ (f : Addr) (fd : FuncData), mg x = some (.ref f) ∧ PySem.W.keepIn K (.ref f) = true ∧ Binds K fd ps [] ∧ FnOk P w K mg base CX0 k f fd ps sp
section
variable {P : Program} {w : World} {K : PySem.W.Frag} {mg : Str → Option Value} {base : Heap}
theorem Df.ok {x qual : Str} {st : Stmt} {N ps : List Str} {k : Nat} {sp : Sp} (D : Df K mg x qual st ps []) (S : FnScope N ps (defScope st)) (len : ∀ vs H Q E, sp vs H Q E → vs.length = ps.length)
    (body : ∀ (f : Addr) (cdv : Value) (A : Around) (outer : List Env) (s : Shared) (H : Hp) (vs : List V) (Q : VK) (E : XK), Room k (A.deeper (envOfC qual (defScope st) s.heap.objs.size f cdv)) → sp vs H Q E →
      ∃ t, PSs (cxOf CX0 P w K mg base N qual (defScope st) f cdv A outer s H E).nox (defBody st) t ∧ t { nx := fun _ H' => Q .non H', rt := Q } (start N vs) H) : Dn P w K mg base x (k + 1) ps sp := by
  obtain ⟨f, fd, m, F, b⟩ := D.ex
  exact ⟨f, fd, m, F.kp, b, F.ok S len (body f)⟩
theorem df_mk {x qual : Str} {st : Stmt} {ps : List Str} {f : Addr} {oc : Value} {od an : Option Addr} {osl : Array (Option Value)} {kV doc pm cdv ct : Value} (m : mg x = some (.ref f))
    (l : K.lookup f = some ⟨oc, od, .func (PySem.W.fnOf x qual (defArgs st) (defBody st) (defScope st) .none kV doc pm an cdv ct), osl⟩) (c : PySem.W.codeIn K cdv qual = true) (k : PySem.W.keepIn K (.ref f) = true)
    (h : ∀ (kV doc pm : Value) (an : Option Addr) (cdv ct : Value) (us : List Value), us.length = ps.length → bindArgs (PySem.W.fnOf x qual (defArgs st) (defBody st) (defScope st) .none kV doc pm an cdv ct) ⟨us, []⟩ = pure (ps.zip us)) : Df K mg x qual st ps [] :=
  ⟨f, _, m, fun_mk l c k, (fun_mk l c k).binds h⟩
end
/-- the def x of the text with its code object c -/
structure DfC (K : PySem.W.Frag) (mg : Str → Option Value) (x qual : Str) (st : Stmt) (ps : List Str) (c : Addr) : Prop where
  ex : ∃ (f : Addr) (oc : Value) (od : Option Addr) (kV doc pm : Value) (an : Option Addr) (ct : Value) (osl : Array (Option Value)), mg x = some (.ref f) ∧
    K.lookup f = some ⟨oc, od, .func (PySem.W.fnOf x qual (defArgs st) (defBody st) (defScope st) .none kV doc pm an (.ref c) ct), osl⟩ ∧ PySem.W.codeIn K (.ref c) qual = true ∧ PySem.W.keepIn K (.ref f) = true
  bd : ∀ (kV doc pm : Value) (an : Option Addr) (cdv ct : Value) (us : List Value), us.length = ps.length → bindArgs (PySem.W.fnOf x qual (defArgs st) (defBody st) (defScope st) .none kV doc pm an cdv ct) ⟨us, []⟩ = pure (ps.zip us)
theorem DfC.ok {P : Program} {w : World} {K : PySem.W.Frag} {mg : Str → Option Value} {base : Heap} {x qual : Str} {st : Stmt} {N ps : List Str} {k : Nat} {sp : Sp} {c : Addr} (D : DfC K mg x qual st ps c) (S : FnScope N ps (defScope st)) (len : ∀ vs H Q E, sp vs H Q E → vs.length = ps.length)
    (body : ∀ (f : Addr) (A : Around) (outer : List Env) (s : Shared) (H : Hp) (vs : List V) (Q : VK) (E : XK), Room k (A.deeper (envOfC qual (defScope st) s.heap.objs.size f (.ref c))) → sp vs H Q E →
      ∃ t, PSs (cxOf CX0 P w K mg base N qual (defScope st) f (.ref c) A outer s H E).nox (defBody st) t ∧ t { nx := fun _ H' => Q .non H', rt := Q } (start N vs) H) : Dn P w K mg base x (k + 1) ps sp := by
  obtain ⟨f, oc, od, kV, doc, pm, an, ct, osl, m, l, cd, kp⟩ := D.ex
  refine ⟨f, _, m, kp, (fun_mk l cd kp).binds D.bd, fn_of l cd S len fun A outer s H vs Q E hr h => ?_⟩
  obtain ⟨t, h1, h2⟩ := body f A outer s H vs Q E hr h
  exact ⟨t, h1.nox, h2⟩
section
variable {X : Cx}
/-- a call of such a def, of its name with arguments -/
theorem pe_dn {x : Str} {k : Nat} {ps : List Str} {sp : Sp} {e : Expr} {es : List Expr} {t : TA} {p pos : Pos} (D : Dn X.prog X.w X.K X.mg X.base x k ps sp) (hr : Room k X.A) (hg : Gl X x) (ha : PA X (e :: es) t)
    (hdb : (x == ("__debug__" : Str)) = false := by decide) (he : starEach (e :: es) X.env = (false, eval e X.env) :: starEach es X.env := by rfl) (hpl : (backTo pos (starEach es X.env)).any (·.1) = false := by rfl) :
    PE X (.Call (.Name x p) (e :: es) [] pos) (tCall sp [] E0 t) := by
  obtain ⟨f, fd, m, kp, b, F⟩ := D.ex
  exact pe_call F hr hg m kp b .nil pass0 ha hdb he hpl
/-- a number of the module's top -/
theorem pe_ci {x : Str} {n : Int} {pos : Pos} (h : ∃ t, X.mg x = some (.int n t)) (hg : Gl X x) (hd : (x == ("__debug__" : Str)) = false := by decide) : PE X (.Name x pos) (tC (.int n)) := by
  obtain ⟨t, m⟩ := h
  exact pe_glob hg m ⟨t, rfl⟩ hd
/-- a built-in class as a value -/
theorem pe_ty {x : Str} {T : String} {pos : Pos} (hm : X.mg x = none) (hg : Gl X x) (hv : bootBuiltins x = some (.type T)) (hn : x ≠ "__name__" := by decide) (hd : (x == ("__debug__" : Str)) = false := by decide) : PE X (.Name x pos) (tC (.ty T)) :=
  pe_bltn hg hm hv rfl hn hd
end
/-! ### what calls come to -/
section
variable {σ : L2.St} {H H' : Hp} {K : PySem.W.Frag} {x : V} {T : String}
theorem tyB_ex (e : Ex H H') (h : TyB K H x T) : TyB K H' x T := by
  cases h with
  | non => exact .non
  | bl b => exact .bl b
  | int i => exact .int i
  | str z => exact .str z
  | byt b => exact .byt b
  | lst h => exact .lst (ex_l e h)
  | tup h => exact .tup (ex_t e h)
  | dK h => exact .dK (e _ _ h)
theorem tyX_of (h : TyB K H x T) : TyX K H x (.type T) := by
  cases h with
  | non => exact .base .non
  | bl b => exact .base (.bl b)
  | int i => exact .base (.int i)
  | str z => exact .base (.str z)
  | byt b => exact .byt b
  | lst h =>
    rcases h with (h | ⟨o, h⟩) | ⟨o, its, n, h, c, _⟩
    · exact .base (.lst h)
    · exact .base (.frz h)
    · exact .kList h c
  | tup h =>
    rcases h with (h | ⟨o, h⟩) | ⟨o, its, n, h, c, _⟩
    · exact .base (.tup h)
    · exact .fTuple h
    · exact .kTuple h c
  | dK h => exact .base (.dK h)
/-- type(x) -/
theorem ev_type {te : TE} (h : Ev te σ H x) (ht : TyB K H x T) : Ev (tCB (rTyp K) (tCons te tNil)) σ H (.ty T) :=
  ev_cb (ea_cons h ea_nil) fun H1 e _ q => ⟨x, T, rfl, tyB_ex e ht, q H1 (Ex.refl H1)⟩
theorem ev_lenS {te : TE} {z : Str} (h : Ev te σ H (.str z)) (hz : z.length ≤ sizeLine) : Ev (tCB (fun xs H Q => ∃ z : Str, xs = [.str z] ∧ z.length ≤ sizeLine ∧ Q (.int z.length) H) (tCons te tNil)) σ H (.int z.length) :=
  ev_cb (ea_cons h ea_nil) fun H1 _ _ q => ⟨z, rfl, hz, q H1 (Ex.refl H1)⟩
theorem rv_NT {a b : String} : RV rNT (.ty a) (.ty b) H (.bl (!decide (a = b))) := fun H1 _ _ q => ⟨a, b, rfl, rfl, q H1 (Ex.refl H1)⟩
/-- isinstance(x, C), C a built-in class -/
theorem ev_isi {te tc : TE} {C : String} {b : Bool} (h : Ev te σ H x) (hc : Ev tc σ H (.ty C)) (ht : TyB K H x T) (hb : kitB T C = some b) : Ev (tCB (rIsi K) (tCons te (tCons tc tNil))) σ H (.bl b) :=
  ev_cb (ea_cons h (ea_cons hc ea_nil)) fun H1 e _ q => ⟨x, .ty C, .type T, .type C, b, rfl, .ty C, tyX_of (tyB_ex e ht), kit_ty hb, q H1 (Ex.refl H1)⟩
end
/-! ### promises of pure defs: R of the arguments and what comes back -/
/-- nothing of the heap is asked -/
def spS (R : List V → V → Prop) : Sp := fun vs H Q _ => ∃ z, R vs z ∧ RetV z H Q
/-- something of the heap is asked that stays where the heap grows -/
def spR (R : Hp → List V → V → Prop) : Sp := fun vs H Q _ => ∃ z, R H vs z ∧ RetV z H Q
/-- a new list comes back -/
def spL (R : Hp → List V → List V → Prop) : Sp := fun vs H Q _ => ∃ xs, R H vs xs ∧ RetL xs H Q
section
variable {σ : L2.St} {H H' : Hp} {z : V} {vs : List V} {E : XK} {ta : TA}
theorem el_callL {R : Hp → List V → List V → Prop} {xs : List V} (h : EvA ta σ H vs) (hR : ∀ H1, Ex H H1 → R H1 (vs ++ []) xs) : EvL (tCall (spL R) [] E ta) σ H xs :=
  el_call h fun H1 e Q q E => ⟨xs, hR H1 e, q⟩
theorem ev_callS {R : List V → V → Prop} (h : EvA ta σ H vs) (hR : R (vs ++ []) z) : Ev (tCall (spS R) [] E ta) σ H z :=
  ev_call h fun H1 _ Q q E => ⟨z, hR, q⟩
theorem ev_callR {R : Hp → List V → V → Prop} (h : EvA ta σ H vs) (hR : ∀ H1, Ex H H1 → R H1 (vs ++ []) z) : Ev (tCall (spR R) [] E ta) σ H z :=
  ev_call h fun H1 e Q q E => ⟨z, hR H1 e, q⟩
end
end HB
namespace HB
open PySem PySem.Spec PyProof.Rows L2 Evl
section
variable {X : Cx} {σ : L2.St} {H H' : Hp} {K : PySem.W.Frag} {x y z w v : V} {ta tb tc te : TE} {r r' : R2}
/-- list + list, each to be read -/
def rCatS (K : PySem.W.Frag) : R2 := fun x y H Q => ∃ l b xs zs, x = .ref l ∧ y = .ref b ∧ SqL K H l xs ∧ SqL K H b zs ∧ xs.length + zs.length ≤ sizeLine ∧ ∀ p, H p = none → Q (.ref p) (upd H p (.lst (xs ++ zs)))
theorem op_catS : OpR X (binaryOp .Add) (rCatS X.K) := by
  intro pins s σ H x y v u Q I rx ry h
  obtain ⟨l, b, xs, zs, rfl, rfl, hl, hb, hz, q⟩ := h
  cases rx
  cases ry
  obtain ⟨is1, r1, ⟨⟨c1, d1, b1, s1⟩, n1, g1, k1, k2, k3⟩, _⟩ := I.list hl
  obtain ⟨is2, r2, ⟨⟨c2, d2, b2, s2⟩, n2, g2, k4, k5, k6⟩, _⟩ := I.list hb
  simp only at k1 k2 k3 k4 k5 k6
  subst k1 k2 k3 k4 k5 k6
  have z1 := r1.length
  have z2 := r2.length
  have fit : is1.toArray.size + is2.toArray.size ≤ sizeLine := by rw [List.size_toArray, List.size_toArray]; omega
  have lay := I.lnew (t' := s.toks) (r1.append r2) (by rw [List.length_append]; omega)
  rw [← List.append_toArray] at lay
  exact concat_meets ⟨_, g1, rfl⟩ ⟨_, g2, rfl⟩ noFill_list_add seq_list_add PySem.F.slot_list_add PySem.F.entry_list_add (PySem.F.args_list_add_2 _ _) (list_addW l b is1.toArray is2.toArray n1 n2 none none s1 s2 fit) ⟨g1, g2, .ref _, _, lay, rfl, q _ I.fresh⟩
theorem ev_chain {a b : Bool} (ha : Ev ta σ H x) (hb : Ev tb σ H y) (hr : RV r x y H (.bl a)) (hc : a = true → Ev tc σ H w) (hr2 : a = true → RV r' y w H (.bl b)) : Ev (tChain r r' ta tb tc) σ H (.bl (a && b)) := fun H1 e Q q =>
  ha H1 e _ fun H2 e2 => hb H2 (e.trans e2) _ fun H3 e3 => hr H3 ((e.trans e2).trans e3) _ fun H4 e4 => ⟨a, rfl, by
    cases a with
    | true =>
      exact iteT (hc rfl H4 (((e.trans e2).trans e3).trans e4) _ fun H5 e5 => hr2 rfl H5 ((((e.trans e2).trans e3).trans e4).trans e5) Q fun H6 e6 => q H6 ((((e2.trans e3).trans e4).trans e5).trans e6))
    | false => exact iteF (q H4 ((e2.trans e3).trans e4))⟩
end
end HB
namespace HB
open PySem PySem.Spec PyProof.Rows L2 Evl
section
variable {σ : L2.St} {H H' : Hp} {K : PySem.W.Frag} {x y z w v : V} {ta tb tc te tl : TE} {t : TT}
/-- a list, and a new one, put together -/
theorem el_cat {l : Addr} {xs zs : List V} (ha : Ev ta σ H (.ref l)) (hl : H l = some (.lst xs)) (hb : EvL tb σ H zs) (hz : xs.length + zs.length ≤ 100000) : EvL (tOp rCat ta tb) σ H (xs ++ zs) := fun H1 e Q q =>
  ha H1 e _ fun H2 e2 => hb H2 (e.trans e2) _ fun b H3 _ e3 h3 => ⟨l, b, xs, zs, rfl, rfl, e3 _ _ (e2 _ _ (e _ _ hl)), h3, sz_of hz, fun p hp => q p _ (fresh_back (e2.trans e3) hp) ((e2.trans e3).trans (Ex.new hp)) upd_same⟩
theorem el_catS {l : Addr} {xs zs : List V} (ha : Ev ta σ H (.ref l)) (hl : SqL K H l xs) (hb : EvL tb σ H zs) (hz : xs.length + zs.length ≤ 100000) : EvL (tOp (rCatS K) ta tb) σ H (xs ++ zs) := fun H1 e Q q =>
  ha H1 e _ fun H2 e2 => hb H2 (e.trans e2) _ fun b H3 _ e3 h3 => ⟨l, b, xs, zs, rfl, rfl, ex_l ((e.trans e2).trans e3) hl, .of h3, sz_of hz, fun p hp => q p _ (fresh_back (e2.trans e3) hp) ((e2.trans e3).trans (Ex.new hp)) upd_same⟩
theorem mem_cutV {xs : List V} {lo hi : Option Int} {x : V} (h : x ∈ cutV xs lo hi) : x ∈ xs := by
  unfold cutV at h
  exact List.mem_of_mem_drop (List.mem_of_mem_take h)
theorem cutV_len (xs : List V) (lo hi : Option Int) : (cutV xs lo hi).length ≤ xs.length := by
  unfold cutV
  rw [List.length_take, List.length_drop]
  omega
/-- [.. for c in s if ..], s a text -/
theorem el_lcS {s : Str} {j : Nat} {vs : List Nat} (f : Nat → Bool) (g : Nat → V) (h : Ev tl σ H (.str s)) (hz : s.cps.size ≤ 40000) (hw : ∀ x, wipe ((wipe σ vs).set j (some x)) vs = wipe σ vs)
    (ht : ∀ (i c : Nat) H1, Ex H H1 → s.cps[i]? = some c → EvT t ((wipe σ vs).set j (some (.str ⟨#[c]⟩))) H1 (f i)) (he : ∀ (i c : Nat) H1, Ex H H1 → s.cps[i]? = some c → f i = true → Ev te ((wipe σ vs).set j (some (.str ⟨#[c]⟩))) H1 (g i)) :
    EvL (tLc (iStr tl) (gName j) t te vs) σ H (given s.cps.size f g) := fun H0 e Q q => h H0 e _ fun H1 e1 => ⟨s, rfl, fun D hD =>
  lc_it walk_str (Cw H1 f g D) ⟨hD, Ex.new hD, upd_same⟩ (fun _ _ _ _ => trivial) (fun i x Hb Hc hi p hy => by
    obtain ⟨rfl, c, hc, rfl⟩ := hy
    exact ⟨hw _, cw_turn p (by omega) (ht i c H1 (e.trans e1) hc) fun hf => he i c H1 (e.trans e1) hc hf⟩) fun Hb p => q D Hb (fresh_back e1 p.1) (e1.trans p.2.1) p.2.2⟩
theorem strOk_one {c : Nat} (h : c < 128) : PyData.strOk ⟨#[c]⟩ = true := by
  unfold PyData.strOk
  simp
  omega
theorem dpAll_map {α : Type} (f : α → V) (g : α → PyData) (h : ∀ a, Dp K H (f a) (g a)) : ∀ xs : List α, DpAll K H (xs.map f) (xs.map g)
  | [] => .nil
  | a :: r => .cons (h a) (dpAll_map f g h r)
theorem canLay_all {α : Type} (g : α → PyData) : ∀ xs : List α, (∀ a ∈ xs, (g a).canLay0 = true) → PyData.canLayAll0 (xs.map g) = true
  | [], _ => by rw [List.map_nil, PyData.canLayAll0]
  | a :: r, h => by rw [List.map_cons, PyData.canLayAll0, h a List.mem_cons_self, canLay_all g r fun b hb => h b (List.mem_cons_of_mem _ hb)]; rfl
theorem depth_all {α : Type} (g : α → PyData) (n : Nat) : ∀ xs : List α, (∀ a ∈ xs, (g a).depth ≤ n) → PyData.depthAll (xs.map g) ≤ n
  | [], _ => by rw [List.map_nil, PyData.depthAll]; exact Nat.zero_le _
  | a :: r, h => by
    rw [List.map_cons, PyData.depthAll]
    exact Nat.max_le.mpr ⟨h a List.mem_cons_self, depth_all g n r fun b hb => h b (List.mem_cons_of_mem _ hb)⟩
theorem shaped_list {α : Type} (g : α → PyData) (xs : List α) (h1 : ∀ a ∈ xs, (g a).canLay0 = true) (h2 : ∀ a ∈ xs, (g a).depth ≤ 63) : SeqAt.shaped (.list (xs.map g)) = true := by
  unfold SeqAt.shaped
  rw [PyData.canLay0, canLay_all g xs h1, PyData.depth]
  exact decide_eq_true (by have := depth_all g 63 xs h2; omega)
theorem rv_niS {c : Nat} {z : Str} : RV (fun x y H Q => ∃ (c : Nat) (z : Str), x = .str ⟨#[c]⟩ ∧ y = .str z ∧ Q (.bl (!decide (c ∈ z.cps.toList))) H) (.str ⟨#[c]⟩) (.str z) H (.bl (!decide (c ∈ z.cps.toList))) := fun H1 _ _ q => ⟨c, z, rfl, rfl, q H1 (Ex.refl H1)⟩
/-- two data compared: what each is, where the heap has grown -/
theorem rv_eqD {d e : PyData} (hd : ∀ H1, Ex H H1 → Dp K H1 x d) (he : ∀ H1, Ex H H1 → Dp K H1 y e) (s1 : SeqAt.shaped d = true) (s2 : SeqAt.shaped e = true) : RV (rEqD K) x y H (.bl (PyData.eqv d e)) := fun H1 e1 _ q => ⟨d, e, hd H1 e1, he H1 e1, s1, s2, q H1 (Ex.refl H1)⟩
theorem rv_neD {d e : PyData} (hd : ∀ H1, Ex H H1 → Dp K H1 x d) (he : ∀ H1, Ex H H1 → Dp K H1 y e) (s1 : SeqAt.shaped d = true) (s2 : SeqAt.shaped e = true) : RV (rNeD K) x y H (.bl (!PyData.eqv d e)) := fun H1 e1 _ q => ⟨d, e, hd H1 e1, he H1 e1, s1, s2, q H1 (Ex.refl H1)⟩
theorem dp_lst {α : Type} {a : Addr} {f : α → V} {g : α → PyData} {xs : List α} (h : SqL K H a (xs.map f)) (hd : ∀ a, Dp K H (f a) (g a)) : Dp K H (.ref a) (.list (xs.map g)) := .lst h (dpAll_map f g hd xs)
/-- s[lo:hi] -/
theorem ev_slS {s : Str} {tp tq : TO} {lo hi : Option Int} (h : Ev te σ H (.str s)) (h1 : EvO tp σ H lo) (h2 : EvO tq σ H hi) (hz : s.length ≤ sizeLine) : Ev (tSl rSlS te tp tq) σ H (.str (cutS s lo hi)) := fun H1 e _ q =>
  h H1 e _ fun H2 e2 => h1 H2 (e.trans e2) _ fun H3 e3 => h2 H3 ((e.trans e2).trans e3) _ fun H4 e4 => ⟨s, rfl, hz, q H4 ((e2.trans e3).trans e4)⟩
/-- s + t -/
theorem rv_addS {a b : Str} (h : a.length + b.length ≤ 100000) : RV (fun x y H Q => ∃ i j : Str, x = .str i ∧ y = .str j ∧ i.length + j.length ≤ sizeLine ∧ Q (.str (i ++ j)) H) (.str a) (.str b) H (.str (a ++ b)) := fun H1 _ _ q => ⟨a, b, rfl, rfl, sz_of h, q H1 (Ex.refl H1)⟩
/-- [a, b, ..][i], the list a new one -/
theorem ev_ixN {xs : List V} {i : Int} (ha : EvL ta σ H xs) (hb : Ev tb σ H (.int i)) (hv : atI xs i = some v) : Ev (tOp (rIxL K) ta tb) σ H v := ev_opL1 ha (fun _ e => hb.mono e) fun _ _ h _ => rv_ixL (.of h) hv
/-- sep.join(new list of texts) -/
theorem ev_joinN {a : Str} {ys : List Str} (h : Ev ta σ H (.str a)) (h2 : EvL te σ H (ys.map V.str)) (hz : (ys.map (·.length)).sum + ys.length * a.length ≤ 16777216) :
    Ev (tM1 (fun x xs H Q => ∃ a p, ∃ ys : List Str, x = .str a ∧ xs = [.ref p] ∧ (SqL K H p (ys.map V.str) ∨ SqT K H p (ys.map V.str)) ∧ (ys.map (·.length)).sum + ys.length * a.length ≤ 16777216 ∧ Q (.str (Txt.join a ys)) H) ta te) σ H (.str (Txt.join a ys)) := fun H1 e _ q =>
  h H1 e _ fun H2 e2 => ⟨⟨a, rfl⟩, h2 H2 (e.trans e2) _ fun p H3 _ e3 h3 => ⟨a, p, ys, rfl, rfl, .inl (.of h3), hz, q H3 (e2.trans e3)⟩⟩
theorem et_yes : EvT tYes σ H true := fun H1 _ _ q => q H1 (Ex.refl H1)
theorem given_all (n : Nat) (g : Nat → V) : given n (fun _ => true) g = (List.range n).map g := by
  unfold given
  rw [List.filter_eq_self.mpr fun _ _ => rfl]
/-- an item at a place that lies within -/
theorem atI_in {xs : List V} {i : Int} (h1 : 0 ≤ i) (h2 : i < xs.length) : ∃ v, v ∈ xs ∧ atI xs i = some v := by
  obtain ⟨j, rfl⟩ := Int.eq_ofNat_of_zero_le h1
  have hj : j < xs.length := by omega
  exact ⟨xs[j], List.getElem_mem hj, atI_nat (List.getElem?_eq_getElem hj)⟩
theorem atN_in {xs : List Nat} {i : Int} (h1 : 0 ≤ i) (h2 : i < xs.length) : ∃ v, v ∈ xs ∧ atI xs i = some v := by
  obtain ⟨j, rfl⟩ := Int.eq_ofNat_of_zero_le h1
  have hj : j < xs.length := by omega
  exact ⟨xs[j], List.getElem_mem hj, atI_nat (List.getElem?_eq_getElem hj)⟩
end
/-! ### short plain texts -/
structure Sh (n : Nat) (s : Str) : Prop where
  len : s.length ≤ n
  asc : ∀ c ∈ s.cps.toList, c < 128
theorem Sh.cut {n : Nat} {s : Str} (h : Sh n s) (lo hi : Option Int) : Sh n (cutS s lo hi) := by
  refine ⟨Nat.le_trans (cutS_length s lo hi) h.len, fun c hc => h.asc c ?_⟩
  unfold cutS at hc
  exact List.mem_of_mem_drop (List.mem_of_mem_take hc)
theorem Sh.one {c : Nat} (h : c < 128) : Sh 1 ⟨#[c]⟩ := ⟨Nat.le_refl 1, fun d hd => by
  have : d = c := by simpa using hd
  omega⟩
theorem Sh.app {n m : Nat} {s t : Str} (h : Sh n s) (k : Sh m t) : Sh (n + m) (s ++ t) := by
  have e : (s ++ t).cps.toList = s.cps.toList ++ t.cps.toList := TL.tl_append s t
  refine ⟨?_, fun c hc => ?_⟩
  · have z := congrArg List.length e
    rw [List.length_append, Array.length_toList, Array.length_toList, Array.length_toList] at z
    have h1 : s.cps.size ≤ n := h.len
    have h2 : t.cps.size ≤ m := k.len
    show (s ++ t).cps.size ≤ n + m
    omega
  · rw [e] at hc
    exact (List.mem_append.mp hc).elim (h.asc c) (k.asc c)
theorem Sh.mono {n m : Nat} {s : Str} (h : Sh n s) (k : n ≤ m) : Sh m s := ⟨Nat.le_trans h.len k, h.asc⟩
/-- single signs, joined by nothing -/
theorem Sh.joined : ∀ ys : List Str, (∀ y ∈ ys, Sh 1 y) → Sh ys.length (Str.join "" ys)
  | [], _ => ⟨Nat.le_refl 0, fun c hc => by cases hc⟩
  | [a], h => h a List.mem_cons_self
  | a :: b :: r, h => by
    have ih := Sh.joined (b :: r) fun y hy => h y (List.mem_cons_of_mem _ hy)
    have e : Sh (1 + 0 + (b :: r).length) (a ++ "" ++ Str.join "" (b :: r)) := ((h a List.mem_cons_self).app ⟨Nat.le_refl 0, fun c hc => by cases hc⟩).app ih
    exact e.mono (by simp only [List.length_cons]; omega)
end HB

set_option maxHeartbeats 4000000
namespace K1
open PySem PySem.Spec PyProof.Rows L2 Evl HB GX
def topS (i : Nat) : Stmt := PySem.Challenge.pw_cuehall_k01_kinds.main.body.getD i (.Pass ⟨0, 0, 0, 0⟩)
abbrev sIsCue : Stmt := topS 7
abbrev sIsLamp : Stmt := topS 8
abbrev sIsLevel : Stmt := topS 9
abbrev sIsFade : Stmt := topS 10
abbrev sIsMoment : Stmt := topS 11
abbrev sNum : Stmt := topS 12
abbrev sSm : Stmt := topS 13
abbrev sMixed : Stmt := topS 15
abbrev sWhole : Stmt := topS 16
abbrev sThing : Stmt := topS 17
abbrev sDue : Stmt := topS 18
abbrev sTold : Stmt := topS 19
abbrev sLaw : Stmt := topS 20
/-! ### the mathematics -/
def numIn (x : V) (lo hi : Int) : Bool := match x with
  | .int i => decide (lo ≤ i) && decide (i ≤ hi)
  | _ => false
def small (c : Nat) : Bool := decide (97 ≤ c) && decide (c ≤ 122)
def lampIs (x : V) : Bool := match x with
  | .str z => decide (1 ≤ z.length) && decide (z.length ≤ 8) && z.cps.toList.all small
  | _ => false
theorem lampIs_str (z : Str) : lampIs (.str z) = (decide (1 ≤ z.length) && decide (z.length ≤ 8) && z.cps.toList.all small) := rfl
theorem numIn_int (i lo hi : Int) : numIn (.int i) lo hi = (decide (lo ≤ i) && decide (i ≤ hi)) := rfl
/-! ### the module's names -/
structure Top (K : PySem.W.Frag) (mg : Str → Option Value) : Prop where
  z_type : mg "type" = none
  z_int : mg "int" = none
  z_str : mg "str" = none
  z_len : mg "len" = none
  z_all : mg "all" = none
  c1 : ∃ t, mg "FIRST_CUE" = some (.int 1 t)
  c2 : ∃ t, mg "LAST_CUE" = some (.int 999999 t)
  c3 : ∃ t, mg "LONGEST_LAMP" = some (.int 8 t)
  c4 : ∃ t, mg "FULL_LEVEL" = some (.int 100 t)
  c5 : ∃ t, mg "LONGEST_FADE" = some (.int 6000 t)
  c6 : ∃ t, mg "LAST_MOMENT" = some (.int 1000000000 t)
section
variable {P : Program} {w : World} {K : PySem.W.Frag} {mg : Str → Option Value} {base : Heap}
/-! ### _is_number -/
theorem scNum : FnScope ["thing", "lowest", "highest"] ["thing", "lowest", "highest"] (defScope sNum) := ⟨rfl, rfl, rfl, by decide +kernel, rfl, by decide +kernel, by decide +kernel⟩
def RNum (K : PySem.W.Frag) (H : Hp) (vs : List V) (z : V) : Prop := ∃ (x : V) (lo hi : Int) (ty : String), vs = [x, .int lo, .int hi] ∧ TyB K H x ty ∧ z = .bl (numIn x lo hi)
theorem d_num (T : Top K mg) (D : Df K mg "_is_number" "_is_number" sNum ["thing", "lowest", "highest"] []) : Dn P w K mg base "_is_number" 1 ["thing", "lowest", "highest"] (spR (RNum K)) := by
  refine D.ok scNum (fun vs H Q E h => ?_) (fun f cdv A outer s H vs Q E hr h => ?_)
  · obtain ⟨z, ⟨x, lo, hi, ty, rfl, _⟩, _⟩ := h
    rfl
  · obtain ⟨z, ⟨x, lo, hi, ty, rfl, ht, rfl⟩, q⟩ := h
    refine ⟨_, pss_cons (ps_if (pt_cmpR op_notTyB (pe_callTy call_type1 (by rfl) T.z_type (by decide +kernel) (pa_cons (pv 0) pa_nil)) (pe_ty (T := "int") T.z_int (by rfl) (by decide +kernel)) (nomark _)) (pss_one (ps_ret pe_bl)) pss_nil)
      (pss_one (ps_ret (pe_and (pe_cmpR op_le (pv 1) (pv 0) (nomark _)) (pe_one (pe_cmpR op_le (pv 0) (pv 2) (nomark _)))))), ?_⟩
    refine q_when (et_test (ev_op (ev_type (ev_var rfl) ht) ev_c rv_NT)) (fun hb H1 e1 => s_ret ev_c fun H2 e2 => ?_) (fun hb H1 e1 => ?_)
    · have z : numIn x lo hi = false := by
        cases ht with
        | int i => exact absurd hb (by decide)
        | _ => rfl
      rw [z] at q
      exact q.go (e1.trans e2)
    · have z : ∃ i, x = .int i := by
        cases ht with
        | int i => exact ⟨i, rfl⟩
        | _ => exact absurd hb (by decide)
      obtain ⟨i, rfl⟩ := z
      exact s_ret (ev_andV (ev_op (ev_var rfl) (ev_var rfl) rv_I0) fun _ => ev_op (ev_var rfl) (ev_var rfl) rv_I0) fun H2 e2 => q.go (e1.trans e2)
/-! ### is_cue, is_level, is_fade, is_moment -/
def RIn (K : PySem.W.Frag) (lo hi : Int) (H : Hp) (vs : List V) (z : V) : Prop := ∃ (x : V) (ty : String), vs = [x] ∧ TyB K H x ty ∧ z = .bl (numIn x lo hi)
theorem scCue : FnScope ["thing"] ["thing"] (defScope sIsCue) := ⟨rfl, rfl, rfl, by decide +kernel, rfl, by decide +kernel, by decide +kernel⟩
theorem d_cue (T : Top K mg) (D : Df K mg "is_cue" "is_cue" sIsCue ["thing"] []) (N : Dn P w K mg base "_is_number" 1 ["thing", "lowest", "highest"] (spR (RNum K))) : Dn P w K mg base "is_cue" 2 ["thing"] (spR (RIn K 1 999999)) := by
  refine D.ok scCue (fun vs H Q E h => ?_) (fun f cdv A outer s H vs Q E hr h => ?_)
  · obtain ⟨z, ⟨x, ty, rfl, _⟩, _⟩ := h
    rfl
  · obtain ⟨z, ⟨x, ty, rfl, ht, rfl⟩, q⟩ := h
    refine ⟨_, pss_one (ps_ret (pe_dn N (hr.mono (by decide)) (by rfl) (pa_cons (pv 0) (pa_cons (pe_ci T.c1 (by rfl)) (pa_cons (pe_ci T.c2 (by rfl)) pa_nil))))), ?_⟩
    exact s_ret (ev_callR (ea_cons (ev_var rfl) (ea_cons ev_c (ea_cons ev_c ea_nil))) fun H1 e1 => ⟨x, 1, 999999, ty, rfl, tyB_ex e1 ht, rfl⟩) fun H2 e2 => q.go e2
theorem scLevel : FnScope ["thing"] ["thing"] (defScope sIsLevel) := ⟨rfl, rfl, rfl, by decide +kernel, rfl, by decide +kernel, by decide +kernel⟩
theorem d_level (T : Top K mg) (D : Df K mg "is_level" "is_level" sIsLevel ["thing"] []) (N : Dn P w K mg base "_is_number" 1 ["thing", "lowest", "highest"] (spR (RNum K))) : Dn P w K mg base "is_level" 2 ["thing"] (spR (RIn K 0 100)) := by
  refine D.ok scLevel (fun vs H Q E h => ?_) (fun f cdv A outer s H vs Q E hr h => ?_)
  · obtain ⟨z, ⟨x, ty, rfl, _⟩, _⟩ := h
    rfl
  · obtain ⟨z, ⟨x, ty, rfl, ht, rfl⟩, q⟩ := h
    refine ⟨_, pss_one (ps_ret (pe_dn N (hr.mono (by decide)) (by rfl) (pa_cons (pv 0) (pa_cons pe_int (pa_cons (pe_ci T.c4 (by rfl)) pa_nil))))), ?_⟩
    exact s_ret (ev_callR (ea_cons (ev_var rfl) (ea_cons ev_c (ea_cons ev_c ea_nil))) fun H1 e1 => ⟨x, 0, 100, ty, rfl, tyB_ex e1 ht, rfl⟩) fun H2 e2 => q.go e2
theorem scFade : FnScope ["thing"] ["thing"] (defScope sIsFade) := ⟨rfl, rfl, rfl, by decide +kernel, rfl, by decide +kernel, by decide +kernel⟩
theorem d_fade (T : Top K mg) (D : Df K mg "is_fade" "is_fade" sIsFade ["thing"] []) (N : Dn P w K mg base "_is_number" 1 ["thing", "lowest", "highest"] (spR (RNum K))) : Dn P w K mg base "is_fade" 2 ["thing"] (spR (RIn K 0 6000)) := by
  refine D.ok scFade (fun vs H Q E h => ?_) (fun f cdv A outer s H vs Q E hr h => ?_)
  · obtain ⟨z, ⟨x, ty, rfl, _⟩, _⟩ := h
    rfl
  · obtain ⟨z, ⟨x, ty, rfl, ht, rfl⟩, q⟩ := h
    refine ⟨_, pss_one (ps_ret (pe_dn N (hr.mono (by decide)) (by rfl) (pa_cons (pv 0) (pa_cons pe_int (pa_cons (pe_ci T.c5 (by rfl)) pa_nil))))), ?_⟩
    exact s_ret (ev_callR (ea_cons (ev_var rfl) (ea_cons ev_c (ea_cons ev_c ea_nil))) fun H1 e1 => ⟨x, 0, 6000, ty, rfl, tyB_ex e1 ht, rfl⟩) fun H2 e2 => q.go e2
theorem scMoment : FnScope ["thing"] ["thing"] (defScope sIsMoment) := ⟨rfl, rfl, rfl, by decide +kernel, rfl, by decide +kernel, by decide +kernel⟩
theorem d_moment (T : Top K mg) (D : Df K mg "is_moment" "is_moment" sIsMoment ["thing"] []) (N : Dn P w K mg base "_is_number" 1 ["thing", "lowest", "highest"] (spR (RNum K))) : Dn P w K mg base "is_moment" 2 ["thing"] (spR (RIn K 0 1000000000)) := by
  refine D.ok scMoment (fun vs H Q E h => ?_) (fun f cdv A outer s H vs Q E hr h => ?_)
  · obtain ⟨z, ⟨x, ty, rfl, _⟩, _⟩ := h
    rfl
  · obtain ⟨z, ⟨x, ty, rfl, ht, rfl⟩, q⟩ := h
    refine ⟨_, pss_one (ps_ret (pe_dn N (hr.mono (by decide)) (by rfl) (pa_cons (pv 0) (pa_cons pe_int (pa_cons (pe_ci T.c6 (by rfl)) pa_nil))))), ?_⟩
    exact s_ret (ev_callR (ea_cons (ev_var rfl) (ea_cons ev_c (ea_cons ev_c ea_nil))) fun H1 e1 => ⟨x, 0, 1000000000, ty, rfl, tyB_ex e1 ht, rfl⟩) fun H2 e2 => q.go e2
/-! ### _is_small_letter, is_lamp -/
theorem a_le (c : Nat) : (!decide ((⟨#[c]⟩ : Str).cps.toList < ("a" : Str).cps.toList)) = decide (97 ≤ c) := by
  have e : ((⟨#[c]⟩ : Str).cps.toList < ("a" : Str).cps.toList) ↔ c < 97 := by
    show ([c] < [97]) ↔ _
    rw [List.cons_lt_cons_iff]
    exact ⟨fun h => h.elim id fun z => absurd z.2 (List.not_lt_nil _), .inl⟩
  by_cases h : c < 97
  · rw [decide_eq_true (e.mpr h), decide_eq_false (by omega)]
    rfl
  · rw [decide_eq_false (fun z => h (e.mp z)), decide_eq_true (by omega)]
    rfl
theorem le_z (c : Nat) : (!decide (("z" : Str).cps.toList < (⟨#[c]⟩ : Str).cps.toList)) = decide (c ≤ 122) := by
  have e : (("z" : Str).cps.toList < (⟨#[c]⟩ : Str).cps.toList) ↔ 122 < c := by
    show ([122] < [c]) ↔ _
    rw [List.cons_lt_cons_iff]
    exact ⟨fun h => h.elim id fun z => absurd z.2 (List.not_lt_nil _), .inl⟩
  by_cases h : 122 < c
  · rw [decide_eq_true (e.mpr h), decide_eq_false (by omega)]
    rfl
  · rw [decide_eq_false (fun z => h (e.mp z)), decide_eq_true (by omega)]
    rfl
theorem d_small {f : Addr} {fd : FuncData} (F : Fun K "_is_small_letter" "_is_small_letter" sSm f fd) : SmallD P w K f small := by
  intro A s c t hA hD hK hlim
  obtain ⟨oc, od, kV, doc, pm, an, cdv, ct, osl, rfl, lk, hcd⟩ := F.ex
  refine Att.call_fn (binds := [("sign", .str ⟨#[c]⟩ t)]) hK hlim lk hcd hD (.of_eq rfl) rfl (fun s1 x => ?_) rfl rfl rfl
  obtain ⟨h1, tk, e1⟩ := x.toInCall.same
  have hn := x.toInCall.ns
  have keep := x.toInCall.keep
  subst e1
  have look : (bindL (envOfC "_is_small_letter" (defScope sSm) s.heap.objs.size f cdv).kindOf [("sign", Value.str ⟨#[c]⟩ t)] fun _ => none) "sign" = some (.str ⟨#[c]⟩ t) := rfl
  have fin : ∀ k, Keeps s { s with heap := h1, toks := k } := fun k => ⟨h1, k, rfl, keep⟩
  have name : ∀ {Q : Value → Shared → Prop} {E' : Value → Shared → Prop} {k : Nat} {pos : Pos}, Q (.str ⟨#[c]⟩ t) { s with heap := h1, toks := k } →
      wpAny (model P w) (A.deeper (envOfC "_is_small_letter" (defScope sSm) s.heap.objs.size f cdv)) (eval (.Name "sign" pos) (envOfC "_is_small_letter" (defScope sSm) s.heap.objs.size f cdv)) Q E' { s with heap := h1, toks := k } :=
    fun q => wpAny_Name (wpAny_loadName_local rfl rfl hn look q) (by decide)
  refine wpAny_execs_cons (wpAny_Return_some (BoolOp_and (wpAny_Compare1 (Calls.Constant_str (name (PySem.P.le_str (wpAny_truthy_bool ?_)))))))
  rw [a_le]
  by_cases h : 97 ≤ c
  · rw [decide_eq_true h]
    refine BoolOp_one (wpAny_Compare1 (name (Calls.Constant_str (PySem.P.le_str ?_))))
    rw [le_z]
    have e : small c = decide (c ≤ 122) := by unfold small; rw [decide_eq_true h]; rfl
    exact ⟨by rw [e], fin _⟩
  · rw [decide_eq_false h]
    have e : small c = false := by unfold small; rw [decide_eq_false h]; rfl
    exact ⟨by rw [e], fin _⟩
def RLamp (K : PySem.W.Frag) (Pt : Addr) (H : Hp) (vs : List V) (z : V) : Prop := ∃ (x : V) (ty : String), vs = [x] ∧ TyB K H x ty ∧ (∀ t : Str, x = .str t → t.length ≤ sizeLine) ∧ TabX H Pt ∧ z = .bl (lampIs x)
theorem scLamp : FnScope ["thing"] ["thing"] (defScope sIsLamp) := ⟨rfl, rfl, rfl, by decide +kernel, rfl, by decide +kernel, by decide +kernel⟩
theorem d_lamp {c Pt fs : Addr} {fds : FuncData} (T : Top K mg) (D : DfC K mg "is_lamp" "is_lamp" sIsLamp ["thing"] c) (TB : GxR.TabB base mg c Pt) (S : Fun K "_is_small_letter" "_is_small_letter" sSm fs fds) (mS : mg "_is_small_letter" = some (.ref fs)) :
    Dn P w K mg base "is_lamp" 2 ["thing"] (spR (RLamp K Pt)) := by
  refine D.ok scLamp (fun vs H Q E h => ?_) (fun f A outer s H vs Q E hr h => ?_)
  · obtain ⟨z, ⟨x, ty, rfl, _⟩, _⟩ := h
    rfl
  · obtain ⟨z, ⟨x, ty, rfl, ht, hz, tab, rfl⟩, q⟩ := h
    refine ⟨_, pss_cons (ps_if (pt_cmpR op_notTyB (pe_callTy call_type1 (by rfl) T.z_type (by decide +kernel) (pa_cons (pv 0) pa_nil)) (pe_ty (T := "str") T.z_str (by rfl) (by decide +kernel)) (nomark _)) (pss_one (ps_ret pe_bl)) pss_nil)
      (pss_cons (ps_if (PW.pt (pw_or (pt_cmpR op_lt (pe_callB call_len_str (by rfl) T.z_len PySem.boot_len (pa_cons (pv 0) pa_nil)) pe_int (nomark _)) (pw_or1 (pt_cmpR op_gt (pe_callB call_len_str (by rfl) T.z_len PySem.boot_len (pa_cons (pv 0) pa_nil)) (pe_ci T.c3 (by rfl)) (nomark _)))))
        (pss_one (ps_ret pe_bl)) pss_nil)
      (pss_one (ps_ret (pe_allX (x := "sign") hr (by rfl) T.z_all TB rfl (gens_mk rfl rfl (by decide +kernel) rfl rfl) (pv 0) (elt_call (d_small S) hr mS S.kp rfl rfl rfl) (fun _ => rfl))))), ?_⟩
    refine q_when (et_test (ev_op (ev_type (ev_var rfl) ht) ev_c rv_NT)) (fun hb H1 e1 => s_ret ev_c fun H2 e2 => ?_) (fun hb H1 e1 => ?_)
    · have z : lampIs x = false := by
        cases ht with
        | str i => exact absurd hb (by decide)
        | _ => rfl
      rw [z] at q
      exact q.go (e1.trans e2)
    · have z : ∃ t, x = .str t := by
        cases ht with
        | str t => exact ⟨t, rfl⟩
        | _ => exact absurd hb (by decide)
      obtain ⟨t, rfl⟩ := z
      have ht2 := hz t rfl
      refine q_when (et_or (et_test (ev_op (ev_lenS (ev_var rfl) ht2) ev_c rv_I0)) fun _ => et_test (ev_op (ev_lenS (ev_var rfl) ht2) ev_c rv_I0)) (fun hb H2 e2 => s_ret ev_c fun H3 e3 => ?_) (fun hb H2 e2 => ?_)
      · have z : lampIs (.str t) = false := by
          rw [lampIs_str]
          rcases Bool.or_eq_true _ _ ▸ hb with h | h
          · have := of_decide_eq_true h
            rw [decide_eq_false (by omega), Bool.false_and, Bool.false_and]
          · have := of_decide_eq_true h
            rw [decide_eq_false (p := t.length ≤ 8) (by omega), Bool.and_false, Bool.false_and]
        rw [z] at q
        exact q.go ((e1.trans e2).trans e3)
      · have z : lampIs (.str t) = t.cps.toList.all small := by
          obtain ⟨h1, h2⟩ := Bool.or_eq_false_iff.mp hb
          have h1 := of_decide_eq_false h1
          have h2 := of_decide_eq_false h2
          rw [lampIs_str]
          rw [decide_eq_true (by omega), decide_eq_true (p := t.length ≤ 8) (by omega), Bool.true_and, Bool.true_and]
        rw [z] at q
        exact ⟨.str t, rfl, t, rfl, (e1.trans e2) _ _ tab, q.go (e1.trans e2)⟩
end
end K1

namespace K1
open PySem PySem.Spec PyProof.Rows L2 Evl HB GX
/-! ### _law_mixed -/
def mix1 (c k : Int) : Int := (c + 7919 * k + 104729) * 48271 % 2147483647
def mixed (c k : Int) : Int := (mix1 c k * mix1 c k + 69621 * mix1 c k) % 2147483629 / 7
theorem mix1_in (c k : Int) : 0 ≤ mix1 c k ∧ mix1 c k < 2147483647 := ⟨Int.emod_nonneg _ (by decide), Int.emod_lt_of_pos _ (by decide)⟩
theorem mixed_in (c k : Int) : 0 ≤ mixed c k ∧ mixed c k < 306783376 := by
  have h1 := Int.emod_nonneg (mix1 c k * mix1 c k + 69621 * mix1 c k) (show (2147483629 : Int) ≠ 0 by decide)
  have h2 := Int.emod_lt_of_pos (mix1 c k * mix1 c k + 69621 * mix1 c k) (show (0 : Int) < 2147483629 by decide)
  unfold mixed
  omega
section
variable {P : Program} {w : World} {K : PySem.W.Frag} {mg : Str → Option Value} {base : Heap}
def RMixed (vs : List V) (z : V) : Prop := ∃ c k : Int, vs = [.int c, .int k] ∧ z = .int (mixed c k)
theorem scMixed : FnScope ["_law_cell", "_law_k", "_law_one"] ["_law_cell", "_law_k"] (defScope sMixed) := ⟨rfl, rfl, rfl, by decide +kernel, rfl, by decide +kernel, by decide +kernel⟩
theorem d_mixed (D : Df K mg "_law_mixed" "_law_mixed" sMixed ["_law_cell", "_law_k"] []) : Dn P w K mg base "_law_mixed" 1 ["_law_cell", "_law_k"] (spS RMixed) := by
  refine D.ok scMixed (fun vs H Q E h => ?_) (fun f cdv A outer s H vs Q E hr h => ?_)
  · obtain ⟨z, ⟨c, k, rfl, _⟩, _⟩ := h
    rfl
  · obtain ⟨z, ⟨c, k, rfl, rfl⟩, q⟩ := h
    refine ⟨_, pss_cons (ps_set (i := 2) scMixed.nd rfl (.inl rfl) (pe_op op_mod (pe_op op_mul (pe_op op_add (pe_op op_add (pv 0) (pe_op op_mul pe_int (pv 1))) pe_int) pe_int) pe_int))
      (pss_one (ps_ret (pe_op op_fdiv (pe_op op_mod (pe_op op_add (pe_op op_mul (pv 2) (pv 2)) (pe_op op_mul pe_int (pv 2))) pe_int) pe_int))), ?_⟩
    have hm := mix1_in c k
    refine q_asg (v := .int (mix1 c k)) (ev_op (ev_op (ev_op (ev_op (ev_var rfl) (ev_op ev_c (ev_var rfl) (rv_I (.inl ⟨by decide, by decide⟩))) rv_I0) ev_c rv_I0) ev_c (rv_I (.inr ⟨by decide, by decide⟩))) ev_c (rv_I (by decide))) fun H1 e1 => ?_
    refine s_ret (v := .int (mixed c k)) (ev_op (ev_op (ev_op (ev_op (ev_var rfl) (ev_var rfl) (rv_I (.inl ⟨by omega, by omega⟩))) (ev_op ev_c (ev_var rfl) (rv_I (.inl ⟨by decide, by decide⟩))) rv_I0) ev_c (rv_I (by decide))) ev_c (rv_I ⟨by decide, by decide⟩)) fun H2 e2 => q.go (e1.trans e2)
/-! ### _law_whole -/
def wholeB (x : V) : Bool := match x with
  | .int _ => true
  | _ => false
def tyInt (ty : String) : Bool := ty == "int" || ty == "bool"
theorem kit_int {H : Hp} {x : V} {ty : String} (h : TyB K H x ty) : kitB ty "int" = some (tyInt ty) := by cases h <;> decide +kernel
theorem kit_bool {H : Hp} {x : V} {ty : String} (h : TyB K H x ty) : kitB ty "bool" = some (ty == "bool") := by cases h <;> decide +kernel
theorem kit_str {H : Hp} {x : V} {ty : String} (h : TyB K H x ty) : kitB ty "str" = some (ty == "str") := by cases h <;> decide +kernel
theorem whole_ty {H : Hp} {x : V} {ty : String} (h : TyB K H x ty) : (tyInt ty && !(ty == "bool")) = wholeB x := by cases h <;> (simp only [wholeB]; decide +kernel)
structure TopL (K : PySem.W.Frag) (mg : Str → Option Value) : Prop where
  z_isinstance : mg "isinstance" = none
  z_int : mg "int" = none
  z_bool : mg "bool" = none
  z_str : mg "str" = none
  z_len : mg "len" = none
  z_range : mg "range" = none
def RWhole (K : PySem.W.Frag) (H : Hp) (vs : List V) (z : V) : Prop := ∃ (x : V) (ty : String), vs = [x] ∧ TyB K H x ty ∧ z = .bl (wholeB x)
theorem scWhole : FnScope ["_law_found"] ["_law_found"] (defScope sWhole) := ⟨rfl, rfl, rfl, by decide +kernel, rfl, by decide +kernel, by decide +kernel⟩
theorem d_whole (T : TopL K mg) (D : Df K mg "_law_whole" "_law_whole" sWhole ["_law_found"] []) : Dn P w K mg base "_law_whole" 1 ["_law_found"] (spR (RWhole K)) := by
  refine D.ok scWhole (fun vs H Q E h => ?_) (fun f cdv A outer s H vs Q E hr h => ?_)
  · obtain ⟨z, ⟨x, ty, rfl, _⟩, _⟩ := h
    rfl
  · obtain ⟨z, ⟨x, ty, rfl, ht, rfl⟩, q⟩ := h
    refine ⟨_, pss_one (ps_ret (pe_and (pe_callB call_isi (by rfl) T.z_isinstance (by decide +kernel) (pa_cons (pv 0) (pa_cons (pe_ty (T := "int") T.z_int (by rfl) (by decide +kernel)) pa_nil)))
      (pe_one (pe_not (pe_callB call_isi (by rfl) T.z_isinstance (by decide +kernel) (pa_cons (pv 0) (pa_cons (pe_ty (T := "bool") T.z_bool (by rfl) (by decide +kernel)) pa_nil))))))), ?_⟩
    rw [← whole_ty ht] at q
    exact s_ret (ev_andV (ev_isi (ev_var rfl) ev_c ht (kit_int ht)) fun _ => ev_notV (ev_isi (ev_var rfl) ev_c ht (kit_bool ht))) fun H1 e1 => q.go e1
/-! ### _law_told -/
def told (x : V) : List V := [.bl (numIn x 1 999999), .bl (numIn x 0 100), .bl (numIn x 0 6000), .bl (numIn x 0 1000000000), .bl (lampIs x)]
/-- a thing that is asked of: its type is known, a text is short, the table of is_lamp stands -/
structure Thg (K : PySem.W.Frag) (Pt : Addr) (H : Hp) (x : V) (ty : String) : Prop where
  ty : TyB K H x ty
  sz : ∀ t : Str, x = .str t → t.length ≤ 100
  asc : ∀ t : Str, x = .str t → ∀ c ∈ t.cps.toList, c < 128
  tab : TabX H Pt
theorem Thg.ex {Pt : Addr} {H H' : Hp} {x : V} {ty : String} (h : Thg K Pt H x ty) (e : Ex H H') : Thg K Pt H' x ty := ⟨tyB_ex e h.ty, h.sz, h.asc, e _ _ h.tab⟩
theorem Thg.noStr {Pt : Addr} {H : Hp} {x : V} {ty : String} (h : TyB K H x ty) (n : ∀ t : Str, x ≠ .str t) (tab : TabX H Pt) : Thg K Pt H x ty := ⟨h, fun t e => absurd e (n t), fun t e => absurd e (n t), tab⟩
theorem Thg.ofStr {Pt : Addr} {H : Hp} {s : Str} (h : Sh 100 s) (tab : TabX H Pt) : Thg K Pt H (.str s) "str" := ⟨.str s, fun t e => by cases e; exact h.len, fun t e => by cases e; exact h.asc, tab⟩
theorem Thg.lamp {Pt : Addr} {H : Hp} {x : V} {ty : String} (h : Thg K Pt H x ty) : RLamp K Pt H [x] (.bl (lampIs x)) := ⟨x, ty, rfl, h.ty, fun t e => Nat.le_trans (h.sz t e) (by decide), h.tab, rfl⟩
theorem Thg.num {Pt : Addr} {H : Hp} {x : V} {ty : String} (h : Thg K Pt H x ty) (lo hi : Int) : RIn K lo hi H [x] (.bl (numIn x lo hi)) := ⟨x, ty, rfl, h.ty, rfl⟩
def RTold (K : PySem.W.Frag) (Pt : Addr) (H : Hp) (vs : List V) (xs : List V) : Prop := ∃ (x : V) (ty : String), vs = [x] ∧ Thg K Pt H x ty ∧ xs = told x
theorem scTold : FnScope ["_law_thing_here"] ["_law_thing_here"] (defScope sTold) := ⟨rfl, rfl, rfl, by decide +kernel, rfl, by decide +kernel, by decide +kernel⟩
theorem d_told {Pt : Addr} (D : Df K mg "_law_told" "_law_told" sTold ["_law_thing_here"] []) (D1 : Dn P w K mg base "is_cue" 2 ["thing"] (spR (RIn K 1 999999))) (D2 : Dn P w K mg base "is_level" 2 ["thing"] (spR (RIn K 0 100)))
    (D3 : Dn P w K mg base "is_fade" 2 ["thing"] (spR (RIn K 0 6000))) (D4 : Dn P w K mg base "is_moment" 2 ["thing"] (spR (RIn K 0 1000000000))) (D5 : Dn P w K mg base "is_lamp" 2 ["thing"] (spR (RLamp K Pt))) :
    Dn P w K mg base "_law_told" 3 ["_law_thing_here"] (spL (RTold K Pt)) := by
  refine D.ok scTold (fun vs H Q E h => ?_) (fun f cdv A outer s H vs Q E hr h => ?_)
  · obtain ⟨z, ⟨x, ty, rfl, _⟩, _⟩ := h
    rfl
  · obtain ⟨z, ⟨x, ty, rfl, ht, rfl⟩, q⟩ := h
    refine ⟨_, pss_one (ps_ret (pe_lst (pa_cons (pe_dn D1 hr (by rfl) (pa_cons (pv 0) pa_nil)) (pa_cons (pe_dn D2 hr (by rfl) (pa_cons (pv 0) pa_nil)) (pa_cons (pe_dn D3 hr (by rfl) (pa_cons (pv 0) pa_nil))
      (pa_cons (pe_dn D4 hr (by rfl) (pa_cons (pv 0) pa_nil)) (pa_cons (pe_dn D5 hr (by rfl) (pa_cons (pv 0) pa_nil)) pa_nil))))))), ?_⟩
    exact s_retL (xs := told x) (el_lst (ea_cons (ev_callR (ea_cons (ev_var rfl) ea_nil) fun H1 e1 => (ht.ex e1).num _ _) (ea_cons (ev_callR (ea_cons (ev_var rfl) ea_nil) fun H1 e1 => (ht.ex e1).num _ _)
      (ea_cons (ev_callR (ea_cons (ev_var rfl) ea_nil) fun H1 e1 => (ht.ex e1).num _ _) (ea_cons (ev_callR (ea_cons (ev_var rfl) ea_nil) fun H1 e1 => (ht.ex e1).num _ _) (ea_cons (ev_callR (ea_cons (ev_var rfl) ea_nil) fun H1 e1 => (ht.ex e1).lamp) ea_nil))))) (by show 5 ≤ 100000; decide)) q
/-! ### _law_due -/
def bnds : List (Int × Int) := [(1, 999999), (0, 100), (0, 6000), (0, 1000000000)]
def dues (x : V) : List V := bnds.map fun p => V.bl (numIn x p.1 p.2)
theorem told_eq (x : V) : dues x ++ [.bl (lampIs x)] = told x := rfl
def letters : Str := "abcdefghijklmnopqrstuvwxyz"
theorem letters_mem (c : Nat) : decide (c ∈ letters.cps.toList) = small c := by
  have e : letters.cps.toList = (List.range 26).map (· + 97) := by decide +kernel
  rw [e]
  unfold small
  rw [← Bool.decide_and]
  refine decide_eq_decide.mpr ?_
  rw [List.mem_map]
  constructor
  · rintro ⟨a, h, rfl⟩
    have := List.mem_range.mp h
    omega
  · intro h
    exact ⟨c - 97, List.mem_range.mpr (by omega), by omega⟩
/-- the signs that are no small letters -/
def others (z : Str) : List Str := ((List.range z.cps.size).filter fun i => !small (z.cps.toList.getD i 0)).map fun i => ⟨#[z.cps.toList.getD i 0]⟩
theorem others_nil (z : Str) : decide (others z = []) = z.cps.toList.all small := by
  unfold others
  rw [Bool.eq_iff_iff, decide_eq_true_iff, List.map_eq_nil_iff, List.filter_eq_nil_iff, List.all_eq_true]
  constructor
  · intro h c hc
    obtain ⟨i, hi, e⟩ := List.getElem_of_mem hc
    have hi2 : i < z.cps.size := by rw [← Array.length_toList]; exact hi
    have := h i (List.mem_range.mpr hi2)
    rw [List.getD_eq_getElem?_getD, List.getElem?_eq_getElem hi, e] at this
    simpa using this
  · intro h i hi
    have hi1 := List.mem_range.mp hi
    have hi2 : i < z.cps.toList.length := by rw [Array.length_toList]; exact hi1
    rw [List.getD_eq_getElem?_getD, List.getElem?_eq_getElem hi2]
    have := h _ (List.getElem_mem hi2)
    simp only [Option.getD_some, this]
    decide
theorem given_others (z : Str) : given z.cps.size (fun i => !small (z.cps.toList.getD i 0)) (fun i => V.str ⟨#[z.cps.toList.getD i 0]⟩) = (others z).map V.str := by
  unfold given others
  rw [List.map_map]
  rfl
theorem at_getD {z : Str} {i c : Nat} (h : z.cps[i]? = some c) : z.cps.toList.getD i 0 = c := by
  rw [List.getD_eq_getElem?_getD, Array.getElem?_toList, h]
  rfl
theorem lamp_eq (z : Str) : (decide (others z = []) && (decide ((0 : Int) < z.length) && decide ((z.length : Int) < 9))) = lampIs (.str z) := by
  rw [lampIs_str, others_nil]
  have e1 : decide ((0 : Int) < z.length) = decide (1 ≤ z.length) := decide_eq_decide.mpr (by omega)
  have e2 : decide ((z.length : Int) < 9) = decide (z.length ≤ 8) := decide_eq_decide.mpr (by omega)
  rw [e1, e2]
  cases z.cps.toList.all small <;> cases decide (1 ≤ z.length) <;> cases decide (z.length ≤ 8) <;> rfl
def RDue (K : PySem.W.Frag) (Pt : Addr) (H : Hp) (vs : List V) (xs : List V) : Prop := RTold K Pt H vs xs
abbrev nsDue : List Str := ["_law_thing_here", "_law_found", "_law_least", "_law_most", "_law_others", "_law_sign"]
theorem scDue : FnScope nsDue ["_law_thing_here"] (defScope sDue) := ⟨rfl, rfl, rfl, by decide +kernel, rfl, by decide +kernel, by decide +kernel⟩
theorem whole_num {x : V} (lo hi : Int) : (wholeB x && numIn x lo hi) = numIn x lo hi := by cases x <;> rfl
theorem whole_int {x : V} (h : wholeB x = true) : ∃ i, x = .int i := by
  cases x with
  | int i => exact ⟨i, rfl⟩
  | _ => cases h
theorem d_due {Pt : Addr} (T : TopL K mg) (D : Df K mg "_law_due" "_law_due" sDue ["_law_thing_here"] []) (W : Dn P w K mg base "_law_whole" 1 ["_law_found"] (spR (RWhole K))) :
    Dn P w K mg base "_law_due" 2 ["_law_thing_here"] (spL (RDue K Pt)) := by
  refine D.ok scDue (fun vs H Q E h => ?_) (fun f cdv A outer s H vs Q E hr h => ?_)
  · obtain ⟨z, ⟨x, ty, rfl, _⟩, _⟩ := h
    rfl
  · obtain ⟨z, ⟨x, ty, rfl, ht, rfl⟩, q⟩ := h
    have hu : (A.deeper (envOfC "_law_due" (defScope sDue) s.heap.objs.size f cdv)).units + 64 < cLine := hr.units
    refine ⟨_, pss_cons (ps_set (i := 1) scDue.nd rfl (.inl rfl) (pe_lst pa_nil))
      (pss_cons (ps_for PassesOwn.never rfl (pi_tup (pe_tup (pa_cons (pe_tup (pa_cons pe_int (pa_cons pe_int pa_nil))) (pa_cons (pe_tup (pa_cons pe_int (pa_cons pe_int pa_nil))) (pa_cons (pe_tup (pa_cons pe_int (pa_cons pe_int pa_nil)))
          (pa_cons (pe_tup (pa_cons pe_int (pa_cons (pe_op op_pow pe_int pe_int) pa_nil))) pa_nil))))))
        (pg_tup rfl (pgs_cons (pg_name (i := 2) scDue.nd rfl (.inl rfl)) (pgs_cons (pg_name (i := 3) scDue.nd rfl (.inl rfl)) pgs_nil)))
        (pss_one (ps_expr (pe_bm PySem.F.plainAttrs_list PySem.F.slot_list_append PySem.F.type_list_append mt_append (pv 1)
          (pa_cons (pe_and (pe_dn W hr (by rfl) (pa_cons (pv 0) pa_nil)) (pe_one (pe_chain op_le op_le (pv 2) (pv 0) (pv 3)))) pa_nil)))))
      (pss_cons (ps_if (pt_not (pt_val (pe_callB call_isi (by rfl) T.z_isinstance (by decide +kernel) (pa_cons (pv 0) (pa_cons (pe_ty (T := "str") T.z_str (by rfl) (by decide +kernel)) pa_nil)))))
        (pss_one (ps_ret (pe_op op_cat (pv 1) (pe_lst (pa_cons pe_bl pa_nil))))) pss_nil)
      (pss_cons (ps_setLc (i := 4) (own := [("_law_sign", 5)]) (g := gName 5) (by rfl) scDue.nd rfl rfl (sw_true rfl rfl rfl (by decide +kernel)) (pi_str (pv 0)) (blkOk_by (own := [("_law_sign", 5)]) (N := nsDue) (sc := defScope sDue) (by decide +kernel))
        (fun _ _ _ _ _ => pg_name (i := 5) scDue.nd rfl (.inl rfl)) (fun _ _ _ _ _ => pts_one (pt_cmpR op_notIn_sign (pv 5) pe_str rfl)) (fun _ _ _ _ _ => pv 5))
      (pss_one (ps_ret (pe_op op_cat (pv 1) (pe_lst (pa_cons (pe_and (pe_cmpR (op_eqD hu) (pv 4) (pe_lst pa_nil) (nomark _)) (pe_one (pe_chain op_lt op_lt pe_int (pe_callB call_len_str (by rfl) T.z_len PySem.boot_len (pa_cons (pv 0) pa_nil)) pe_int))) pa_nil)))))))), ?_⟩
    -- _law_found = []
    refine q_asgL (el_lst ea_nil (Nat.zero_le _)) fun L H1 nL e1 hL => ?_
    -- the four bounds
    refine ⟨by show 2 ≤ sizeLine; decide, fun t1 n1 => ⟨by show 2 ≤ sizeLine; decide, fun t2 n2 => ⟨by show 2 ≤ sizeLine; decide, fun t3 n3 => ⟨10, 9, rfl, rfl, ⟨by decide, by decide, by decide⟩, by show 2 ≤ sizeLine; decide, fun t4 n4 => ⟨by show 4 ≤ sizeLine; decide, fun t5 n5 => ?_⟩⟩⟩⟩⟩
    have x1 := Ex.new (o := .tup [.int 1, .int 999999]) n1
    have x2 := Ex.new (o := .tup [.int 0, .int 100]) n2
    have x3 := Ex.new (o := .tup [.int 0, .int 6000]) n3
    have x4 := Ex.new (o := .tup [.int 0, .int (10 ^ (9 : Int).toNat)]) n4
    have x5 := Ex.new (o := .tup [.ref t1, .ref t2, .ref t3, .ref t4]) n5
    have f1 := x5 _ _ (x4 _ _ (x3 _ _ (x2 t1 _ upd_same)))
    have f2 := x5 _ _ (x4 _ _ (x3 t2 _ upd_same))
    have f3 := x5 _ _ (x4 t3 _ upd_same)
    have f4 := x5 t4 _ upd_same
    have f5 : (upd (upd (upd (upd (upd H1 t1 (.tup [.int 1, .int 999999])) t2 (.tup [.int 0, .int 100])) t3 (.tup [.int 0, .int 6000])) t4 (.tup [.int 0, .int (10 ^ (9 : Int).toNat)])) t5 (.tup [.ref t1, .ref t2, .ref t3, .ref t4])) t5 = _ := upd_same
    have xA := (((x1.trans x2).trans x3).trans x4).trans x5
    generalize hH : upd (upd (upd (upd (upd H1 t1 (.tup [.int 1, .int 999999])) t2 (.tup [.int 0, .int 100])) t3 (.tup [.int 0, .int 6000])) t4 (.tup [.int 0, .int (10 ^ (9 : Int).toNat)])) t5 (.tup [.ref t1, .ref t2, .ref t3, .ref t4]) = H5 at f1 f2 f3 f4 f5 xA
    have hL5 := xA _ _ hL
    have neL : ∀ {t : Addr} {xs : List V}, H5 t = some (.tup xs) → t ≠ L := fun h => ne_of h hL5 (fun z => by cases z)
    refine ⟨t5, rfl, ⟨_, .of f5⟩, for_tup (K := K) (a := t5) (xs := [.ref t1, .ref t2, .ref t3, .ref t4]) (fun i σ H' => ∃ y2 y3, σ = [some x, some (.ref L), y2, y3, none, none] ∧ (∀ a u, a ≠ L → H5 a = some u → H' a = some u) ∧ H' L = some (.lst ((dues x).take i)))
      ⟨none, none, rfl, fun a u _ e => e, hL5⟩ (fun i σ H' _ ⟨_, _, _, k, _⟩ => .of (k _ _ (neL f5) f5)) ?_ ?_⟩
    · rintro i y σ H' hi ⟨y2, y3, rfl, k, hl⟩
      have hy : ∃ t lo hi, y = .ref t ∧ H5 t = some (.tup [.int lo, .int hi]) ∧ bnds[i]? = some (lo, hi) := by
        match i, hi with
        | 0, hi => exact ⟨t1, 1, 999999, (Option.some.inj hi).symm, f1, rfl⟩
        | 1, hi => exact ⟨t2, 0, 100, (Option.some.inj hi).symm, f2, rfl⟩
        | 2, hi => exact ⟨t3, 0, 6000, (Option.some.inj hi).symm, f3, rfl⟩
        | 3, hi => exact ⟨t4, 0, 1000000000, (Option.some.inj hi).symm, f4, rfl⟩
        | i + 4, hi => cases hi
      obtain ⟨t, lo, hi2, rfl, ft, hb⟩ := hy
      refine ⟨t, [.int lo, .int hi2], rfl, .of (k _ _ (neL ft) ft), rfl, .int lo, [.int hi2], rfl, .int hi2, [], rfl, rfl, ?_⟩
      have hx : ∀ {Hn : Hp}, (∀ a u, a ≠ L → H5 a = some u → Hn a = some u) → TyB K Hn x ty := fun {Hn} k => tyB_ex (fun a u e => k a u (ne_of_none e nL) (xA _ _ (e1 _ _ e))) ht.ty
      have dl : (dues x)[i]? = some (.bl (numIn x lo hi2)) := by
        unfold dues
        rw [List.getElem?_map, hb]
        rfl
      refine s_app (v := .bl (numIn x lo hi2)) hl (ev_var rfl) (ev_is (ev_andV (a := wholeB x) (b := numIn x lo hi2) (ev_callR (ea_cons (ev_var rfl) ea_nil) fun H2 e2 => ⟨x, ty, rfl, tyB_ex e2 (hx k), rfl⟩) fun hw => ?_) (by rw [whole_num])) ?_ fun H2 e2 => ?_
      · obtain ⟨n, rfl⟩ := whole_int hw
        exact ev_chain (ev_var rfl) (ev_var rfl) rv_I0 (fun _ => ev_var rfl) fun _ => rv_I0
      · rw [List.length_take]
        show min i (List.length bnds) < 100000
        exact Nat.lt_of_le_of_lt (Nat.min_le_right _ _) (by decide)
      · refine ⟨some (.int lo), some (.int hi2), rfl, fun a u n e => ?_, ?_⟩
        · rw [upd_ne n]
          exact e2 _ _ (k _ _ n e)
        · rw [upd_same, List.take_add_one, dl]
          rfl
    · rintro σ H' ⟨y2, y3, rfl, k, hl⟩
      have hl : H' L = some (.lst (dues x)) := hl
      have ex : Ex H H' := fun a u e => k a u (ne_of_none e nL) (xA _ _ (e1 _ _ e))
      have ht := ht.ex ex
      refine q_when (et_not (et_B (ev_isi (ev_var rfl) ev_c ht.ty (kit_str ht.ty)))) (fun hb H2 e2 => ?_) (fun hb H2 e2 => ?_)
      · have z : lampIs x = false := by
          cases ht.ty with
          | str i => exact absurd hb (by decide)
          | _ => rfl
        rw [← told_eq, z] at q
        refine s_retL (el_cat (ev_var rfl) (e2 _ _ hl) (el_lst (ea_cons ev_c ea_nil) (by show 1 ≤ 100000; decide)) (by show 4 + 1 ≤ 100000; decide)) fun p H3 hp e3 h3 => q.go (ex.trans e2) hp e3 h3
      · have z : ∃ t, x = .str t := by
          cases ht.ty with
          | str t => exact ⟨t, rfl⟩
          | _ => exact absurd hb (by decide)
        obtain ⟨t, rfl⟩ := z
        have h100 := ht.sz t rfl
        refine q_asgL (xs := (others t).map V.str) ?_ fun p H3 hp e3 h3 => ?_
        · rw [← given_others]
          refine el_lcS _ _ (ev_var rfl) (Nat.le_trans h100 (by decide)) (fun _ => rfl) (fun i c H3 e3 hc => ?_) (fun i c H3 e3 hc hf => ?_)
          · rw [at_getD hc, ← letters_mem]
            exact et_test (ev_op (ev_var rfl) ev_c rv_niS)
          · rw [at_getD hc]
            exact ev_var rfl
        · have asc : ∀ o ∈ others t, (PyData.str o).canLay0 = true := fun o ho => by
            obtain ⟨i, hi, rfl⟩ := List.mem_map.mp ho
            have hi1 := List.mem_range.mp (List.mem_filter.mp hi).1
            have hi2 : i < t.cps.toList.length := by rw [Array.length_toList]; exact hi1
            have hc := ht.asc t rfl _ (List.getElem_mem hi2)
            rw [PyData.canLay0]
            rw [List.getD_eq_getElem?_getD, List.getElem?_eq_getElem hi2]
            exact strOk_one hc
          have he : PyData.eqv (.list ((others t).map PyData.str)) (.list ([] : List PyData)) = decide (others t = []) := by
            cases others t with
            | nil => rw [List.map_nil, PyData.eqv, PyData.eqvAll]; rfl
            | cons a r => rw [List.map_cons, PyData.eqv, PyData.eqvAll]; rfl
          have cmp : Ev (tOp (rEqD K) (tVar 4) (tLst tNil)) [some (.str t), some (.ref L), y2, y3, some (.ref p), none] H3 (.bl (decide (others t = []))) := by
            rw [← he]
            refine ev_opL (ev_var rfl) (el_lst ea_nil (Nat.zero_le _)) fun b H4 hb e4 => rv_eqD (fun H5 e5 => dp_lst (.of (e5 _ _ (e4 _ _ h3))) fun a => .str a) (fun H5 e5 => .lst (.of (e5 _ _ hb)) .nil) (shaped_list _ _ asc fun a _ => ?_) (by decide +kernel)
            rw [PyData.depth]
            exact Nat.zero_le _
          rw [← told_eq, ← lamp_eq] at q
          refine s_retL (el_cat (ev_var rfl) (e3 _ _ (e2 _ _ hl)) (el_lst (ea_cons (ev_andV cmp fun _ => ev_chain ev_c (ev_lenS (ev_var rfl) (Nat.le_trans h100 (by decide))) rv_I0 (fun _ => ev_c) fun _ => rv_I0) ea_nil) (by show 1 ≤ 100000; decide)) (by show 4 + 1 ≤ 100000; decide)) fun p2 H4 hp2 e4 h4 => q.go ((ex.trans e2).trans e3) hp2 e4 h4
/-! ### _law_thing -/
abbrev nsThing : List Str := ["_law_cell", "_law_mix", "_law_letters", "_law_word", "_law_spot", "_law_k"]
theorem scThing : FnScope nsThing ["_law_cell"] (defScope sThing) := ⟨rfl, rfl, rfl, by decide +kernel, rfl, by decide +kernel, by decide +kernel⟩
/-- some thing comes back, and the table of is_lamp stands -/
def spThing (K : PySem.W.Frag) (Pt : Addr) : Sp := fun vs H Q _ => ∃ c : Int, vs = [.int c] ∧ TabX H Pt ∧ ∀ (x : V) (ty : String) (H' : Hp), Ex H H' → Thg K Pt H' x ty → Q x H'
theorem d_thing {Pt : Addr} (T : TopL K mg) (D : Df K mg "_law_thing" "_law_thing" sThing ["_law_cell"] []) (M : Dn P w K mg base "_law_mixed" 1 ["_law_cell", "_law_k"] (spS RMixed)) :
    Dn P w K mg base "_law_thing" 2 ["_law_cell"] (spThing K Pt) := by
  refine D.ok scThing (fun vs H Q E h => ?_) (fun f cdv A outer s H vs Q E hr h => ?_)
  · obtain ⟨c, rfl, _⟩ := h
    rfl
  · obtain ⟨c, rfl, tab, q⟩ := h
    --DER
    refine ⟨_, (pss_cons (ps_set (i := 1) scThing.nd rfl (.inl rfl) (pe_dn M (hr.mono (by decide)) (by rfl) (pa_cons (pv 0) (pa_cons pe_int pa_nil))))
        (pss_cons (ps_if (pt_cmpR op_eq (pe_op op_mod (pv 1) pe_int) pe_int (nomark _))
        (pss_one (ps_ret (pe_ix ix_list (pe_lst (pa_cons pe_non (pa_cons pe_bl (pa_cons pe_bl (pa_cons pe_str (pa_cons pe_str (pa_cons (pe_lst (pa_cons pe_int pa_nil)) (pa_cons (pe_tup (pa_cons pe_int pa_nil)) (pa_cons pe_dnewK (pa_cons pe_str (pa_cons (pe_lst (pa_cons pe_str pa_nil)) pa_nil))))))))))) (pe_op op_mod (pe_op op_fdiv (pv 1) pe_int) pe_int) (fun _ _ => rfl))))
        pss_nil)
        (pss_cons (ps_if (pt_cmpR op_eq (pe_op op_mod (pv 1) pe_int) pe_int (nomark _))
        (pss_one (ps_ret (pe_op op_sub (pe_op op_add (pe_ix ix_list (pe_lst (pa_cons pe_int (pa_cons pe_int (pa_cons pe_int (pa_cons pe_int (pa_cons pe_int (pa_cons (pe_op op_pow pe_int pe_int) pa_nil))))))) (pe_op op_mod (pe_op op_fdiv (pv 1) pe_int) pe_int) (fun _ _ => rfl)) (pe_op op_mod (pe_op op_fdiv (pv 1) pe_int) pe_int)) pe_int)))
        pss_nil)
        (pss_cons (ps_if (pt_cmpR op_eq (pe_op op_mod (pv 1) pe_int) pe_int (nomark _))
        (pss_one (ps_ret (pe_op op_mul (pe_op op_mod (pv 0) (pe_op op_pow pe_int pe_int)) (pe_ix ix_list (pe_lst (pa_cons pe_int (pa_cons (pe_un un_neg pe_int) pa_nil))) (pe_op op_mod (pe_op op_fdiv (pv 1) pe_int) pe_int) (fun _ _ => rfl)))))
        pss_nil)
        (pss_cons (ps_set (i := 2) scThing.nd rfl (.inr rfl) pe_str)
        (pss_cons (ps_set (i := 3) scThing.nd rfl (.inl rfl) (pe_join pe_str (pe_lc (own := [("_law_k", 5)]) (g := gName 5) (by rfl) scThing.nd (pi_range1 (by rfl) T.z_range (pa_cons (pe_op op_mod (pe_op op_fdiv (pv 1) pe_int) pe_int) pa_nil)) (blkOk_by (own := [("_law_k", 5)]) (N := nsThing) (sc := defScope sThing) (by decide +kernel)) (fun _ _ _ _ _ => (pg_name (i := 5) scThing.nd rfl (.inl rfl))) (fun _ _ _ _ _ => pts_nil) (fun _ _ _ _ _ => (pe_ix ix_str (pv 2) (pe_op op_mod (pe_dn M (hr.mono (by decide)) (by rfl) (pa_cons (pv 0) (pa_cons (pe_op op_add pe_int (pv 5)) pa_nil))) pe_int) (fun _ _ => rfl))))))
        (pss_cons (ps_set (i := 4) scThing.nd rfl (.inl rfl) (pe_op op_mod (pe_op op_fdiv (pv 1) pe_int) (pe_op op_add (pe_callB call_len_str (by rfl) T.z_len PySem.boot_len (pa_cons (pv 3) pa_nil)) pe_int)))
        (pss_cons (ps_if (pt_cmpR op_eq (pe_op op_mod (pe_op op_fdiv (pv 1) pe_int) pe_int) pe_int (nomark _))
        (pss_one (ps_ret (pe_op op_add_str (pe_op op_add_str (pe_slice sl_str (pv 3) po_none (po_some (pv 4))) (pe_ix ix_str pe_str (pe_op op_mod (pe_op op_fdiv (pv 1) pe_int) pe_int) (fun _ _ => rfl))) (pe_slice sl_str (pv 3) (po_some (pv 4)) po_none))))
        pss_nil)
        (pss_one (ps_ret (pv 3))))))))))), ?_⟩
    have l26 : letters.cps.toList.length = 26 := by decide +kernel
    have l8 : ("A1 _.z-\n" : Str).cps.toList.length = 8 := by decide +kernel
    obtain ⟨m, em⟩ : ∃ m, m = mixed c 1 := ⟨_, rfl⟩
    have hm : 0 ≤ m ∧ m < 306783376 := em ▸ mixed_in c 1
    refine q_asg (v := .int m) (ev_callS (ea_cons (ev_var rfl) (ea_cons ev_c ea_nil)) ⟨c, 1, rfl, by rw [em]⟩) fun H1 e1 => ?_
    refine q_when (et_test (ev_op (ev_op (ev_var rfl) ev_c (rv_I (by decide))) ev_c (rv_eq rfl))) (fun hb H2 e2 => ?_) (fun hb H2 e2 => ?_)
    · -- one of ten things
      refine ⟨by show 1 ≤ sizeLine; decide, fun p5 n5 => ⟨by show 1 ≤ sizeLine; decide, fun p6 n6 => fun p7 n7 => ⟨by show 1 ≤ sizeLine; decide, fun p9 n9 => ⟨by show 10 ≤ sizeLine; decide, fun L nL => ?_⟩⟩⟩⟩
      have x5 := Ex.new (o := .lst [.int 1]) n5
      have x6 := Ex.new (o := .tup [.int 1]) n6
      have x7 := Ex.new (o := .dK []) n7
      have x9 := Ex.new (o := .lst [.str "red"]) n9
      have xL := Ex.new (o := .lst [.non, .bl true, .bl false, .str "", .str "red", .ref p5, .ref p6, .ref p7, .str "1", .ref p9]) nL
      have f5 := xL _ _ (x9 _ _ (x7 _ _ (x6 p5 _ upd_same)))
      have f6 := xL _ _ (x9 _ _ (x7 p6 _ upd_same))
      have f7 := xL _ _ (x9 p7 _ upd_same)
      have f9 := xL p9 _ upd_same
      have xA := (((x5.trans x6).trans x7).trans x9).trans xL
      refine (ev_op (ev_op (ev_var rfl) ev_c (rv_I ⟨by decide, by decide⟩)) ev_c (rv_I (by decide)) : Ev _ _ _ (.int (m / 4 % 10))) _ (Ex.refl _) _ fun H3 e3 => ?_
      obtain ⟨v, hv, ha⟩ := atI_in (xs := [V.non, .bl true, .bl false, .str "", .str "red", .ref p5, .ref p6, .ref p7, .str "1", .ref p9]) (i := m / 4 % 10) (by omega) (by show m / 4 % 10 < 10; omega)
      have ex := (e1.trans e2).trans (xA.trans e3)
      have tab3 := ex _ _ tab
      refine ⟨L, _, _, v, rfl, rfl, .of (e3 _ _ upd_same), ha, ?_⟩
      simp only [List.mem_cons, List.not_mem_nil, or_false] at hv
      rcases hv with rfl | rfl | rfl | rfl | rfl | rfl | rfl | rfl | rfl | rfl
      · exact q _ _ _ ex (.noStr .non (fun _ z => by cases z) tab3)
      · exact q _ _ _ ex (.noStr (.bl _) (fun _ z => by cases z) tab3)
      · exact q _ _ _ ex (.noStr (.bl _) (fun _ z => by cases z) tab3)
      · exact q _ _ _ ex (.ofStr ⟨by decide, by decide +kernel⟩ tab3)
      · exact q _ _ _ ex (.ofStr ⟨by decide, by decide +kernel⟩ tab3)
      · exact q _ _ _ ex (.noStr (.lst (.of (e3 _ _ f5))) (fun _ z => by cases z) tab3)
      · exact q _ _ _ ex (.noStr (.tup (.of (e3 _ _ f6))) (fun _ z => by cases z) tab3)
      · exact q _ _ _ ex (.noStr (.dK (e3 _ _ f7)) (fun _ z => by cases z) tab3)
      · exact q _ _ _ ex (.ofStr ⟨by decide, by decide +kernel⟩ tab3)
      · exact q _ _ _ ex (.noStr (.lst (.of (e3 _ _ f9))) (fun _ z => by cases z) tab3)
    refine q_when (et_test (ev_op (ev_op (ev_var rfl) ev_c (rv_I (by decide))) ev_c (rv_eq rfl))) (fun hb H3 e3 => ?_) (fun hb H3 e3 => ?_)
    · -- a number next to a bound
      obtain ⟨v, hv, ha⟩ := atI_in (xs := [V.int 0, .int 1, .int 100, .int 6000, .int 999999, .int (10 ^ (9 : Int).toNat)]) (i := m / 4 % 6) (by omega) (by show m / 4 % 6 < 6; omega)
      have hn : ∃ n, v = .int n := by
        simp only [List.mem_cons, List.not_mem_nil, or_false] at hv
        rcases hv with rfl | rfl | rfl | rfl | rfl | rfl <;> exact ⟨_, rfl⟩
      obtain ⟨n, rfl⟩ := hn
      refine s_ret (ev_op (ev_op (ev_ixN (el_lst (ea_cons ev_c (ea_cons ev_c (ea_cons ev_c (ea_cons ev_c (ea_cons ev_c (ea_cons (ev_op ev_c ev_c (rv_I ⟨by decide, by decide, by decide⟩)) ea_nil)))))) (by show 6 ≤ 100000; decide))
        (ev_op (ev_op (ev_var rfl) ev_c (rv_I ⟨by decide, by decide⟩)) ev_c (rv_I (by decide))) ha) (ev_op (ev_op (ev_var rfl) ev_c (rv_I ⟨by decide, by decide⟩)) ev_c (rv_I (by decide))) rv_I0) ev_c rv_I0) fun H4 e4 => ?_
      have ex := ((e1.trans e2).trans e3).trans e4
      exact q _ _ _ ex (.noStr (.int _) (fun _ z => by cases z) (ex _ _ tab))
    refine q_when (et_test (ev_op (ev_op (ev_var rfl) ev_c (rv_I (by decide))) ev_c (rv_eq rfl))) (fun hb H4 e4 => ?_) (fun hb H4 e4 => ?_)
    · -- any number
      obtain ⟨v, hv, ha⟩ := atI_in (xs := [V.int 1, .int (-1)]) (i := m / 4 % 2) (by omega) (by show m / 4 % 2 < 2; omega)
      have hn : ∃ n : Int, v = .int n ∧ -(2 ^ 64) < n ∧ n < 2 ^ 64 := by
        simp only [List.mem_cons, List.not_mem_nil, or_false] at hv
        rcases hv with rfl | rfl
        · exact ⟨1, rfl, by decide, by decide⟩
        · exact ⟨-1, rfl, by decide, by decide⟩
      obtain ⟨n, rfl, hn⟩ := hn
      refine s_ret (ev_op (ev_op (ev_var rfl) (ev_op ev_c ev_c (rv_I ⟨by decide, by decide, by decide⟩)) (rv_I (by decide))) (ev_ixN (el_lst (ea_cons ev_c (ea_cons (ev_un ev_c ru_neg) ea_nil)) (by show 2 ≤ 100000; decide))
        (ev_op (ev_op (ev_var rfl) ev_c (rv_I ⟨by decide, by decide⟩)) ev_c (rv_I (by decide))) ha) (rv_I (.inr hn))) fun H5 e5 => ?_
      have ex := (((e1.trans e2).trans e3).trans e4).trans e5
      exact q _ _ _ ex (.noStr (.int _) (fun _ z => by cases z) (ex _ _ tab))
    -- a text
    refine q_asg ev_c fun H5 e5 => ?_
    obtain ⟨sign, hs⟩ : ∃ sign : Nat → Nat, ∀ i : Nat, atI letters.cps.toList (mixed c (10 + (i : Int)) % 26) = some (sign i) ∧ sign i < 128 := by
      have h : ∀ i : Nat, ∃ d, atI letters.cps.toList (mixed c (10 + (i : Int)) % 26) = some d ∧ d < 128 := fun i => by
        have hi := mixed_in c (10 + (i : Int))
        obtain ⟨d, hd, ha⟩ := atN_in (xs := letters.cps.toList) (i := mixed c (10 + (i : Int)) % 26) (by omega) (by rw [l26]; omega)
        exact ⟨d, ha, (by decide +kernel : ∀ d ∈ letters.cps.toList, d < 128) d hd⟩
      exact ⟨fun i => (h i).choose, fun i => (h i).choose_spec⟩
    have hn11 : 0 ≤ m / 4 % 11 ∧ m / 4 % 11 < 11 := by omega
    obtain ⟨ys, eys⟩ : ∃ ys : List Str, ys = (List.range (m / 4 % 11).toNat).map fun i => ⟨#[sign i]⟩ := ⟨_, rfl⟩
    have hys : ∀ y ∈ ys, Sh 1 y := fun y hy => by
      rw [eys] at hy
      obtain ⟨i, _, rfl⟩ := List.mem_map.mp hy
      exact Sh.one (hs i).2
    have len : ys.length = (m / 4 % 11).toNat := by rw [eys, List.length_map, List.length_range]
    have sum1 : (ys.map (·.length)).sum ≤ ys.length := by
      clear eys len
      induction ys with
      | nil => exact Nat.le_refl 0
      | cons y r ih =>
        have h1 := (hys y List.mem_cons_self).len
        have h2 := ih fun z hz => hys z (List.mem_cons_of_mem _ hz)
        simp only [List.map_cons, List.sum_cons, List.length_cons]
        omega
    obtain ⟨word, ew⟩ : ∃ word, word = Txt.join "" ys := ⟨_, rfl⟩
    have hw : Sh 10 word := by
      rw [ew, TL.join_eq]
      exact (Sh.joined ys hys).mono (by omega)
    refine q_asg (v := .str word) (by
      rw [ew]
      refine ev_joinN ev_c ?_ (by
        have e0 : ("" : Str).length = 0 := rfl
        rw [e0]
        omega)
      have eg : ys.map V.str = given (m / 4 % 11).toNat (fun _ => true) (fun i => V.str ⟨#[sign i]⟩) := by
        rw [given_all, eys, List.map_map]
        rfl
      rw [eg]
      refine el_lcR1 (fun _ => true) (fun i => V.str ⟨#[sign i]⟩) (ea_cons (ev_op (ev_op (ev_var rfl) ev_c (rv_I ⟨by decide, by decide⟩)) ev_c (rv_I (by decide))) ea_nil) (by omega) (fun _ => rfl) (fun i H6 e6 hi => et_yes) (fun i H6 e6 hi _ => ?_)
      exact ev_op (ev_var rfl) (ev_op (ev_callS (ea_cons (ev_var rfl) (ea_cons (ev_op ev_c (ev_var rfl) rv_I0) ea_nil)) ⟨c, 10 + (i : Int), rfl, rfl⟩) ev_c (rv_I (by decide))) (rv_ixS (by decide) (hs i).1)) fun H6 e6 => ?_
    have hwl := hw.len
    refine q_asg (ev_op (ev_op (ev_var rfl) ev_c (rv_I ⟨by decide, by decide⟩)) (ev_op (ev_lenS (ev_var rfl) (Nat.le_trans hwl (by decide))) ev_c rv_I0) (rv_I (by omega))) fun H7 e7 => ?_
    have ex7 := (((((e1.trans e2).trans e3).trans e4).trans e5).trans e6).trans e7
    refine q_when (et_test (ev_op (ev_op (ev_op (ev_var rfl) ev_c (rv_I ⟨by decide, by decide⟩)) ev_c (rv_I (by decide))) ev_c (rv_eq rfl))) (fun hb H8 e8 => ?_) (fun hb H8 e8 => ?_)
    · obtain ⟨d, hd, ha⟩ := atN_in (xs := ("A1 _.z-\n" : Str).cps.toList) (i := m / 84 % 8) (by omega) (by rw [l8]; omega)
      have hd1 : d < 128 := (by decide +kernel : ∀ d ∈ ("A1 _.z-\n" : Str).cps.toList, d < 128) d hd
      have k1 := hw.cut none (some (m / 44 % ((word.length : Int) + 1)))
      have k2 := hw.cut (some (m / 44 % ((word.length : Int) + 1))) none
      have k3 := k1.app (Sh.one hd1)
      refine s_ret (ev_op (ev_op (ev_slS (ev_var rfl) eo_none (eo_some (ev_var rfl)) (Nat.le_trans hwl (by decide))) (ev_op ev_c (ev_op (ev_op (ev_var rfl) ev_c (rv_I ⟨by decide, by decide⟩)) ev_c (rv_I (by decide))) (rv_ixS (by decide) ha))
        (rv_addS (by have := k1.len; have e : (⟨#[d]⟩ : Str).length = 1 := rfl; omega))) (ev_slS (ev_var rfl) (eo_some (ev_var rfl)) eo_none (Nat.le_trans hwl (by decide))) (rv_addS (by have := k3.len; have := k2.len; omega))) fun H9 e9 => ?_
      have ex := (ex7.trans e8).trans e9
      exact q _ _ _ ex (.ofStr ((k3.app k2).mono (by decide)) (ex _ _ tab))
    · refine s_ret (ev_var rfl) fun H9 e9 => ?_
      have ex := (ex7.trans e8).trans e9
      exact q _ _ _ ex (.ofStr (hw.mono (by decide)) (ex _ _ tab))
end
end K1

namespace K1
open PySem PySem.Spec PyProof.Rows L2 Evl HB GX
/-! ### law -/
def toldB (x : V) : List Bool := [numIn x 1 999999, numIn x 0 100, numIn x 0 6000, numIn x 0 1000000000, lampIs x]
theorem told_map (x : V) : told x = (toldB x).map V.bl := rfl
def toldD (x : V) : PyData := .list ((toldB x).map PyData.bool)
theorem shaped_bools (bs : List Bool) : SeqAt.shaped (.list (bs.map PyData.bool)) = true := shaped_list _ _ (fun a _ => by rw [PyData.canLay0]) fun a _ => by
  rw [PyData.depth]
  exact Nat.zero_le _
theorem told_red : PyData.eqv (toldD (.str "red")) (.list ([false, false, false, false, true].map PyData.bool)) = true := by
  have e : toldB (.str "red") = [false, false, false, false, true] := by decide +kernel
  unfold toldD
  rw [e]
  exact SeqAt.eqv_refl _ (SeqAt.canLay_of_shaped (shaped_bools _))
section
variable {P : Program} {w : World} {K : PySem.W.Frag} {mg : Str → Option Value} {base : Heap}
theorem dp_told {H : Hp} {p : Addr} {x : V} (h : H p = some (.lst (told x))) : Dp K H (.ref p) (toldD x) := dp_lst (.of (by rw [told_map] at h; exact h)) fun b => .bl b
abbrev nsLaw : List Str := ["_law_script", "_law_cell", "_law_thing_here", "_law_found", "_law_one"]
theorem scLaw : FnScope nsLaw ["_law_script"] (defScope sLaw) := ⟨rfl, rfl, rfl, by decide +kernel, rfl, by decide +kernel, by decide +kernel⟩
def spLaw (K : PySem.W.Frag) (Pt : Addr) : Sp := fun vs H Q _ => ∃ (a : Addr) (ns : List Int), vs = [.ref a] ∧ SqL K H a (ns.map V.int) ∧ ns.length ≤ 63 ∧ TabX H Pt ∧ RetV (.bl true) H Q
theorem d_law {Pt f : Addr} {fd : FuncData} (T : TopL K mg) (F : Fun K "law" "law" sLaw f fd) (TH : Dn P w K mg base "_law_thing" 2 ["_law_cell"] (spThing K Pt)) (TO : Dn P w K mg base "_law_told" 3 ["_law_thing_here"] (spL (RTold K Pt)))
    (DU : Dn P w K mg base "_law_due" 2 ["_law_thing_here"] (spL (RDue K Pt))) : FnOk P w K mg base CX0 4 f fd ["_law_script"] (spLaw K Pt) := by
  refine F.ok scLaw (fun vs H Q E h => ?_) (fun cdv A outer s H vs Q E hr h => ?_)
  · obtain ⟨a, ns, rfl, _⟩ := h
    rfl
  · obtain ⟨a, ns, rfl, hS, hlen, tab, q⟩ := h
    have hu64 : (A.deeper (envOfC "law" (defScope sLaw) s.heap.objs.size f cdv)).units + 64 < cLine := hr.units
    refine ⟨_, (pss_cons (ps_for PassesOwn.never rfl (pi_list (pe_op op_catS (pv 0) (pe_slice sl_list (pv 0) po_none (po_some pe_int)))) (pg_name (i := 1) scLaw.nd rfl (.inl rfl))
        (pss_cons (ps_set (i := 2) scLaw.nd rfl (.inl rfl) (pe_dn TH (hr.mono (by decide)) (by rfl) (pa_cons (pv 1) pa_nil)))
        (pss_cons (ps_set (i := 3) scLaw.nd rfl (.inl rfl) (pe_dn TO (hr.mono (by decide)) (by rfl) (pa_cons (pv 2) pa_nil)))
        (pss_one (ps_if (PW.pt (pw_or (pt_cmpR (op_neD hu64) (pv 3) (pe_dn DU (hr.mono (by decide)) (by rfl) (pa_cons (pv 2) pa_nil)) (nomark _)) (pw_or1 (pt_cmpR (op_neD hu64) (pe_lc (own := [("_law_one", 4)]) (g := gName 4) (by rfl) scLaw.nd (pi_list (pv 3)) (blkOk_by (own := [("_law_one", 4)]) (N := nsLaw) (sc := defScope sLaw) (by decide +kernel)) (fun _ _ _ _ _ => (pg_name (i := 4) scLaw.nd rfl (.inl rfl))) (fun _ _ _ _ _ => (pts_one (pt_not (pt_val (pe_callB (r := rIsi K) call_isi (by rfl) T.z_isinstance (by decide +kernel) (pa_cons (pv 4) (pa_cons (pe_ty (T := "bool") T.z_bool (by rfl) (by decide +kernel)) pa_nil))))))) (fun _ _ _ _ _ => (pv 4))) (pe_lst pa_nil) (nomark _)))))
        (pss_one (ps_ret pe_bl))
        pss_nil)))))
        (pss_one (ps_ret (pe_cmpR (op_eqD hu64) (pe_dn TO (hr.mono (by decide)) (by rfl) (pa_cons pe_str pa_nil)) (pe_lst (pa_cons pe_bl (pa_cons pe_bl (pa_cons pe_bl (pa_cons pe_bl (pa_cons pe_bl pa_nil)))))) (nomark _))))), ?_⟩
    have hc : ∀ x ∈ cutV (ns.map V.int) none (some 9), ∃ i, x = V.int i := fun x hx => by
      obtain ⟨i, _, rfl⟩ := List.mem_map.mp (mem_cutV hx)
      exact ⟨i, rfl⟩
    have hl9 : (cutV (ns.map V.int) none (some 9)).length ≤ ns.length := by
      have := cutV_len (ns.map V.int) none (some 9)
      rw [List.length_map] at this
      exact this
    have allI : ∀ (i : Nat) (x : V), (ns.map V.int ++ cutV (ns.map V.int) none (some 9))[i]? = some x → ∃ i, x = V.int i := fun i x hx => by
      rcases List.mem_append.mp (List.mem_of_getElem? hx) with h | h
      · obtain ⟨i, _, rfl⟩ := List.mem_map.mp h
        exact ⟨i, rfl⟩
      · exact hc x h
    refine q_forNLn (el_catS (ev_var rfl) hS (el_sl (ev_var rfl) eo_none (eo_some ev_c) hS) (by rw [List.length_map]; omega)) (fun p i σ H' => ∃ y1 y2 y3, σ = [some (.ref a), y1, y2, y3, none] ∧ Ex H H' ∧ H' p = some (.lst (ns.map V.int ++ cutV (ns.map V.int) none (some 9))))
      (fun p H1 _ e1 h1 => ⟨none, none, none, rfl, e1, h1⟩) (fun p i σ H' _ ⟨_, _, _, _, _, h⟩ => .of h) (fun p i x σ H' hx => ?_) (fun p σ H' => ?_)
    · rintro ⟨y1, y2, y3, rfl, e, hp⟩
      obtain ⟨c, rfl⟩ := allI i x hx
      refine ⟨.int c, rfl, c, rfl, e _ _ tab, fun x ty H1 e1 th => ?_⟩
      refine q_asgL (xs := told x) (el_callL (ea_cons (ev_var rfl) ea_nil) fun H2 e2 => ⟨x, ty, rfl, th.ex e2, rfl⟩) fun r H2 nr e2 hr2 => ?_
      refine s_when (b := false || false) (et_or (et_test ?_) fun _ => et_test ?_) (fun hb => absurd hb (by decide)) fun _ H3 e3 => ?_
      · have z : (!PyData.eqv (toldD x) (toldD x)) = false := by rw [SeqAt.eqv_refl (toldD x) (SeqAt.canLay_of_shaped (shaped_bools (toldB x)))]; rfl
        rw [← z]
        exact ev_opL (ev_var rfl) (el_callL (xs := told x) (ea_cons (ev_var rfl) ea_nil) fun H3 e3 => ⟨x, ty, rfl, th.ex (e2.trans e3), rfl⟩) fun b H4 hb e4 => rv_neD (fun H5 e5 => dp_told (e5 _ _ (e4 _ _ hr2))) (fun H5 e5 => dp_told (e5 _ _ hb)) (shaped_bools _) (shaped_bools _)
      · have z : (!PyData.eqv (.list []) (.list [])) = false := by decide +kernel
        rw [← z]
        refine ev_opLL (xs := []) (ys := []) ?_ (el_lst ea_nil (Nat.zero_le _)) fun b b2 H4 hb hb2 e4 => rv_neD (fun H5 e5 => .lst (.of (e5 _ _ hb)) .nil) (fun H5 e5 => .lst (.of (e5 _ _ hb2)) .nil) (by decide +kernel) (by decide +kernel)
        have e0 : ([] : List V) = given (told x).length (fun _ => false) (fun _ => V.non) := rfl
        rw [e0]
        refine el_lcL _ _ (ev_var rfl) (.of hr2) (by show 5 ≤ 40000; decide) (fun _ => rfl) (fun j y H4 e4 hy => ?_) (fun _ _ _ _ _ h => absurd h (by decide))
        rw [told_map, List.getElem?_map] at hy
        obtain ⟨b, hb, rfl⟩ := Option.map_eq_some_iff.mp hy
        exact et_not (et_B (ev_isi (b := true) (ev_var rfl) ev_c (.bl b) (by decide +kernel)))
      · exact ⟨_, _, _, rfl, ((e.trans e1).trans e2).trans e3, (e3 _ _ (e2 _ _ (e1 _ _ hp)))⟩
    · rintro ⟨y1, y2, y3, rfl, e, hp⟩
      have th : Thg K Pt H' (.str "red") "str" := .ofStr ⟨by decide, by decide +kernel⟩ (e _ _ tab)
      rw [← told_red] at q
      exact s_ret (ev_opLL (xs := told (.str "red")) (ys := [false, false, false, false, true].map V.bl) (el_callL (ea_cons ev_c ea_nil) fun H2 e2 => ⟨_, _, rfl, th.ex e2, rfl⟩)
        (el_lst (ea_cons ev_c (ea_cons ev_c (ea_cons ev_c (ea_cons ev_c (ea_cons ev_c ea_nil))))) (by show 5 ≤ 100000; decide)) fun b b2 H4 hb hb2 e4 =>
          rv_eqD (fun H5 e5 => dp_told (e5 _ _ hb)) (fun H5 e5 => dp_lst (.of (e5 _ _ hb2)) fun b => .bl b) (shaped_bools _) (shaped_bools _)) fun H3 e3 => q.go (e.trans e3)
end
end K1

namespace K1
open PySem PySem.Spec PyProof.Rows L2 Evl HB GX
/-! ### what the top has written; the end -/
theorem all_mk {l : PySem.W.OpenLaw} {w : World} {K : PySem.W.Frag} {h : Heap} {mg : Str → Option Value} {fa c2 Pt : Addr} {known : Str → Prop} (X : K.In h) (G : h.Ns mainGlobals mg) (hfa : mg "law" = some (.ref fa))
    (tabs : ∀ (y : Str) (c P : Addr), known y → PySem.W.tabIn K y = some (c, P) → PySem.W.CodeHd h c P ∧ h.get? P = some { cls := .none, data := .fields #[] })
    {f1 f2 f3 f4 f5 f6 f7 f8 f9 f10 f11 f12 f13 : Addr} {od1 an1 od2 an2 od3 an3 od4 an4 od5 an5 od6 an6 od7 an7 od8 an8 od9 an9 od10 an10 od11 an11 od12 an12 od13 an13 : Option Addr} {sl1 sl2 sl3 sl4 sl5 sl6 sl7 sl8 sl9 sl10 sl11 sl12 sl13 : Array (Option Value)} {oc1 kV1 dc1 pm1 ct1 cd1 oc2 kV2 dc2 pm2 ct2 oc3 kV3 dc3 pm3 ct3 cd3 oc4 kV4 dc4 pm4 ct4 cd4 oc5 kV5 dc5 pm5 ct5 cd5 oc6 kV6 dc6 pm6 ct6 cd6 oc7 kV7 dc7 pm7 ct7 cd7 oc8 kV8 dc8 pm8 ct8 cd8 oc9 kV9 dc9 pm9 ct9 cd9 oc10 kV10 dc10 pm10 ct10 cd10 oc11 kV11 dc11 pm11 ct11 cd11 oc12 kV12 dc12 pm12 ct12 cd12 oc13 kV13 dc13 pm13 ct13 cd13 : Value} {t1 t2 t3 t4 t5 t6 : Tok}
    (a1 : PySem.W.nsIn K mainGlobals "is_cue" = some (some (.ref f1))) (l1 : K.lookup f1 = some ⟨oc1, od1, .func (PySem.W.fnOf "is_cue" "is_cue" (defArgs sIsCue) (defBody sIsCue) (defScope sIsCue) .none kV1 dc1 pm1 an1 cd1 ct1), sl1⟩) (cd1k : PySem.W.codeIn K cd1 "is_cue" = true) (k1 : PySem.W.keepIn K (.ref f1) = true)
    (a2 : PySem.W.nsIn K mainGlobals "is_lamp" = some (some (.ref f2))) (l2 : K.lookup f2 = some ⟨oc2, od2, .func (PySem.W.fnOf "is_lamp" "is_lamp" (defArgs sIsLamp) (defBody sIsLamp) (defScope sIsLamp) .none kV2 dc2 pm2 an2 (.ref c2) ct2), sl2⟩) (cd2k : PySem.W.codeIn K (.ref c2) "is_lamp" = true) (k2 : PySem.W.keepIn K (.ref f2) = true)
    (a3 : PySem.W.nsIn K mainGlobals "is_level" = some (some (.ref f3))) (l3 : K.lookup f3 = some ⟨oc3, od3, .func (PySem.W.fnOf "is_level" "is_level" (defArgs sIsLevel) (defBody sIsLevel) (defScope sIsLevel) .none kV3 dc3 pm3 an3 cd3 ct3), sl3⟩) (cd3k : PySem.W.codeIn K cd3 "is_level" = true) (k3 : PySem.W.keepIn K (.ref f3) = true)
    (a4 : PySem.W.nsIn K mainGlobals "is_fade" = some (some (.ref f4))) (l4 : K.lookup f4 = some ⟨oc4, od4, .func (PySem.W.fnOf "is_fade" "is_fade" (defArgs sIsFade) (defBody sIsFade) (defScope sIsFade) .none kV4 dc4 pm4 an4 cd4 ct4), sl4⟩) (cd4k : PySem.W.codeIn K cd4 "is_fade" = true) (k4 : PySem.W.keepIn K (.ref f4) = true)
    (a5 : PySem.W.nsIn K mainGlobals "is_moment" = some (some (.ref f5))) (l5 : K.lookup f5 = some ⟨oc5, od5, .func (PySem.W.fnOf "is_moment" "is_moment" (defArgs sIsMoment) (defBody sIsMoment) (defScope sIsMoment) .none kV5 dc5 pm5 an5 cd5 ct5), sl5⟩) (cd5k : PySem.W.codeIn K cd5 "is_moment" = true) (k5 : PySem.W.keepIn K (.ref f5) = true)
    (a6 : PySem.W.nsIn K mainGlobals "_is_number" = some (some (.ref f6))) (l6 : K.lookup f6 = some ⟨oc6, od6, .func (PySem.W.fnOf "_is_number" "_is_number" (defArgs sNum) (defBody sNum) (defScope sNum) .none kV6 dc6 pm6 an6 cd6 ct6), sl6⟩) (cd6k : PySem.W.codeIn K cd6 "_is_number" = true) (k6 : PySem.W.keepIn K (.ref f6) = true)
    (a7 : PySem.W.nsIn K mainGlobals "_is_small_letter" = some (some (.ref f7))) (l7 : K.lookup f7 = some ⟨oc7, od7, .func (PySem.W.fnOf "_is_small_letter" "_is_small_letter" (defArgs sSm) (defBody sSm) (defScope sSm) .none kV7 dc7 pm7 an7 cd7 ct7), sl7⟩) (cd7k : PySem.W.codeIn K cd7 "_is_small_letter" = true) (k7 : PySem.W.keepIn K (.ref f7) = true)
    (a8 : PySem.W.nsIn K mainGlobals "_law_mixed" = some (some (.ref f8))) (l8 : K.lookup f8 = some ⟨oc8, od8, .func (PySem.W.fnOf "_law_mixed" "_law_mixed" (defArgs sMixed) (defBody sMixed) (defScope sMixed) .none kV8 dc8 pm8 an8 cd8 ct8), sl8⟩) (cd8k : PySem.W.codeIn K cd8 "_law_mixed" = true) (k8 : PySem.W.keepIn K (.ref f8) = true)
    (a9 : PySem.W.nsIn K mainGlobals "_law_whole" = some (some (.ref f9))) (l9 : K.lookup f9 = some ⟨oc9, od9, .func (PySem.W.fnOf "_law_whole" "_law_whole" (defArgs sWhole) (defBody sWhole) (defScope sWhole) .none kV9 dc9 pm9 an9 cd9 ct9), sl9⟩) (cd9k : PySem.W.codeIn K cd9 "_law_whole" = true) (k9 : PySem.W.keepIn K (.ref f9) = true)
    (a10 : PySem.W.nsIn K mainGlobals "_law_thing" = some (some (.ref f10))) (l10 : K.lookup f10 = some ⟨oc10, od10, .func (PySem.W.fnOf "_law_thing" "_law_thing" (defArgs sThing) (defBody sThing) (defScope sThing) .none kV10 dc10 pm10 an10 cd10 ct10), sl10⟩) (cd10k : PySem.W.codeIn K cd10 "_law_thing" = true) (k10 : PySem.W.keepIn K (.ref f10) = true)
    (a11 : PySem.W.nsIn K mainGlobals "_law_due" = some (some (.ref f11))) (l11 : K.lookup f11 = some ⟨oc11, od11, .func (PySem.W.fnOf "_law_due" "_law_due" (defArgs sDue) (defBody sDue) (defScope sDue) .none kV11 dc11 pm11 an11 cd11 ct11), sl11⟩) (cd11k : PySem.W.codeIn K cd11 "_law_due" = true) (k11 : PySem.W.keepIn K (.ref f11) = true)
    (a12 : PySem.W.nsIn K mainGlobals "_law_told" = some (some (.ref f12))) (l12 : K.lookup f12 = some ⟨oc12, od12, .func (PySem.W.fnOf "_law_told" "_law_told" (defArgs sTold) (defBody sTold) (defScope sTold) .none kV12 dc12 pm12 an12 cd12 ct12), sl12⟩) (cd12k : PySem.W.codeIn K cd12 "_law_told" = true) (k12 : PySem.W.keepIn K (.ref f12) = true)
    (a13 : PySem.W.nsIn K mainGlobals "law" = some (some (.ref f13))) (l13 : K.lookup f13 = some ⟨oc13, od13, .func (PySem.W.fnOf "law" "law" (defArgs sLaw) (defBody sLaw) (defScope sLaw) .none kV13 dc13 pm13 an13 cd13 ct13), sl13⟩) (cd13k : PySem.W.codeIn K cd13 "law" = true) (k13 : PySem.W.keepIn K (.ref f13) = true)
    (q1 : PySem.W.nsIn K mainGlobals "FIRST_CUE" = some (some (.int 1 t1))) (q2 : PySem.W.nsIn K mainGlobals "LAST_CUE" = some (some (.int 999999 t2))) (q3 : PySem.W.nsIn K mainGlobals "LONGEST_LAMP" = some (some (.int 8 t3))) (q4 : PySem.W.nsIn K mainGlobals "FULL_LEVEL" = some (some (.int 100 t4))) (q5 : PySem.W.nsIn K mainGlobals "LONGEST_FADE" = some (some (.int 6000 t5))) (q6 : PySem.W.nsIn K mainGlobals "LAST_MOMENT" = some (some (.int 1000000000 t6)))
    (z1 : PySem.W.nsIn K mainGlobals "type" = some none) (z2 : PySem.W.nsIn K mainGlobals "int" = some none) (z3 : PySem.W.nsIn K mainGlobals "str" = some none) (z4 : PySem.W.nsIn K mainGlobals "len" = some none) (z5 : PySem.W.nsIn K mainGlobals "all" = some none) (z6 : PySem.W.nsIn K mainGlobals "isinstance" = some none) (z7 : PySem.W.nsIn K mainGlobals "bool" = some none) (z8 : PySem.W.nsIn K mainGlobals "range" = some none)
    (kn : known "is_lamp") (tb : PySem.W.tabIn K "is_lamp" = some (c2, Pt)) (nT : K.lookup Pt = none) : LX.LawAt l w K 4 63 "_law_script" mg fa h := by
  have e := hfa.symm.trans (PySem.W.mg_of X G a13)
  cases e
  obtain ⟨hC, hP⟩ := tabs _ _ _ kn tb
  have T : Top K mg := ⟨PySem.W.mg_none_of X G z1, PySem.W.mg_none_of X G z2, PySem.W.mg_none_of X G z3, PySem.W.mg_none_of X G z4, PySem.W.mg_none_of X G z5, ⟨_, PySem.W.mg_of X G q1⟩, ⟨_, PySem.W.mg_of X G q2⟩, ⟨_, PySem.W.mg_of X G q3⟩, ⟨_, PySem.W.mg_of X G q4⟩, ⟨_, PySem.W.mg_of X G q5⟩, ⟨_, PySem.W.mg_of X G q6⟩⟩
  have TL : TopL K mg := ⟨PySem.W.mg_none_of X G z6, PySem.W.mg_none_of X G z2, PySem.W.mg_none_of X G z7, PySem.W.mg_none_of X G z3, PySem.W.mg_none_of X G z4, PySem.W.mg_none_of X G z8⟩
  have D1 : Df K mg "is_cue" "is_cue" sIsCue ["thing"] [] := df_mk (PySem.W.mg_of X G a1) l1 cd1k k1 (fun _ _ _ _ _ _ us hl => match us, hl with | [_], _ => rfl)
  have D2 : DfC K mg "is_lamp" "is_lamp" sIsLamp ["thing"] c2 := ⟨⟨f2, _, _, _, _, _, _, _, _, PySem.W.mg_of X G a2, l2, cd2k, k2⟩, fun _ _ _ _ _ _ us hl => match us, hl with | [_], _ => rfl⟩
  have D3 : Df K mg "is_level" "is_level" sIsLevel ["thing"] [] := df_mk (PySem.W.mg_of X G a3) l3 cd3k k3 (fun _ _ _ _ _ _ us hl => match us, hl with | [_], _ => rfl)
  have D4 : Df K mg "is_fade" "is_fade" sIsFade ["thing"] [] := df_mk (PySem.W.mg_of X G a4) l4 cd4k k4 (fun _ _ _ _ _ _ us hl => match us, hl with | [_], _ => rfl)
  have D5 : Df K mg "is_moment" "is_moment" sIsMoment ["thing"] [] := df_mk (PySem.W.mg_of X G a5) l5 cd5k k5 (fun _ _ _ _ _ _ us hl => match us, hl with | [_], _ => rfl)
  have D6 : Df K mg "_is_number" "_is_number" sNum ["thing", "lowest", "highest"] [] := df_mk (PySem.W.mg_of X G a6) l6 cd6k k6 (fun _ _ _ _ _ _ us hl => match us, hl with | [_, _, _], _ => rfl)
  have D7 := fun_mk (st := sSm) l7 cd7k k7
  have D8 : Df K mg "_law_mixed" "_law_mixed" sMixed ["_law_cell", "_law_k"] [] := df_mk (PySem.W.mg_of X G a8) l8 cd8k k8 (fun _ _ _ _ _ _ us hl => match us, hl with | [_, _], _ => rfl)
  have D9 : Df K mg "_law_whole" "_law_whole" sWhole ["_law_found"] [] := df_mk (PySem.W.mg_of X G a9) l9 cd9k k9 (fun _ _ _ _ _ _ us hl => match us, hl with | [_], _ => rfl)
  have D10 : Df K mg "_law_thing" "_law_thing" sThing ["_law_cell"] [] := df_mk (PySem.W.mg_of X G a10) l10 cd10k k10 (fun _ _ _ _ _ _ us hl => match us, hl with | [_], _ => rfl)
  have D11 : Df K mg "_law_due" "_law_due" sDue ["_law_thing_here"] [] := df_mk (PySem.W.mg_of X G a11) l11 cd11k k11 (fun _ _ _ _ _ _ us hl => match us, hl with | [_], _ => rfl)
  have D12 : Df K mg "_law_told" "_law_told" sTold ["_law_thing_here"] [] := df_mk (PySem.W.mg_of X G a12) l12 cd12k k12 (fun _ _ _ _ _ _ us hl => match us, hl with | [_], _ => rfl)
  have D13 := fun_mk (st := sLaw) l13 cd13k k13
  refine ⟨PySem.W.fnOf "law" "law" (defArgs sLaw) (defBody sLaw) (defScope sLaw) .none kV13 dc13 pm13 an13 cd13 ct13, [(c2, Pt)], spLaw K Pt, fun p hp => ?_, fun p hp => ?_, fun p hp => ?_, fun s v => .of_eq rfl, fun H a ns hl _ hT hS => ?_, fun base hM hB => ?_⟩
  · rw [List.mem_singleton.mp hp]
    exact hP
  · rw [List.mem_singleton.mp hp]
    exact nT
  · rw [List.mem_singleton.mp hp]
    exact hC
  · refine ⟨a, ns, rfl, hS, hl, hT (c2, Pt) (List.mem_singleton.mpr rfl), fun H2 e => ⟨rfl, fun p hp => ?_⟩⟩
    have z := hT p hp
    exact (e _ _ z).trans z.symm
  · have TB := hB (c2, Pt) (List.mem_singleton.mpr rfl)
    have num := d_num (P := l.prog) (w := w) (base := base) T D6
    have lamp := d_lamp (P := l.prog) (w := w) (base := base) T D2 TB D7 (PySem.W.mg_of X G a7)
    have mx := d_mixed (P := l.prog) (w := w) (base := base) D8
    have wh := d_whole (P := l.prog) (w := w) (base := base) TL D9
    exact d_law TL D13 (d_thing TL D10 mx) (d_told D12 (d_cue T D1 num) (d_level T D3 num) (d_fade T D4 num) (d_moment T D5 num) lamp) (d_due TL D11 wh)
end K1
open PySem PySem.W PyProof.Rows
set_option maxHeartbeats 0 in
theorem PySem.Challenge.cw_cuehall_k01_kinds_holds : PySem.Challenge.rw_cuehall_k01_kinds.Holds := by
  w_on; o_law; k_head; (case hw => w_witness2)
  k_fill
  refine LX.walk (l := PySem.Challenge.rw_cuehall_k01_kinds) (n := 63) (k := 4) (x := "_law_script") rfl (by decide) rfl ⟨rfl, by decide, by decide⟩ (fun w h Y => PySem.W.kIn_of Y) ?F
  case F =>
    intro w mg fa h KX G hmg tabs
    refine' K1.all_mk KX G hmg tabs ?a1 ?l1 ?cd1k ?k1 ?a2 ?l2 ?cd2k ?k2 ?a3 ?l3 ?cd3k ?k3 ?a4 ?l4 ?cd4k ?k4 ?a5 ?l5 ?cd5k ?k5 ?a6 ?l6 ?cd6k ?k6 ?a7 ?l7 ?cd7k ?k7 ?a8 ?l8 ?cd8k ?k8 ?a9 ?l9 ?cd9k ?k9 ?a10 ?l10 ?cd10k ?k10 ?a11 ?l11 ?cd11k ?k11 ?a12 ?l12 ?cd12k ?k12 ?a13 ?l13 ?cd13k ?k13 ?q1 ?q2 ?q3 ?q4 ?q5 ?q6 ?z1 ?z2 ?z3 ?z4 ?z5 ?z6 ?z7 ?z8 ?kn ?tb ?nT
    (case a1 => k_is)
    (case l1 => k_is)
    (case cd1k => k_is)
    (case k1 => k_is)
    (case a2 => k_is)
    (case l2 => k_is)
    (case cd2k => k_is)
    (case k2 => k_is)
    (case a3 => k_is)
    (case l3 => k_is)
    (case cd3k => k_is)
    (case k3 => k_is)
    (case a4 => k_is)
    (case l4 => k_is)
    (case cd4k => k_is)
    (case k4 => k_is)
    (case a5 => k_is)
    (case l5 => k_is)
    (case cd5k => k_is)
    (case k5 => k_is)
    (case a6 => k_is)
    (case l6 => k_is)
    (case cd6k => k_is)
    (case k6 => k_is)
    (case a7 => k_is)
    (case l7 => k_is)
    (case cd7k => k_is)
    (case k7 => k_is)
    (case a8 => k_is)
    (case l8 => k_is)
    (case cd8k => k_is)
    (case k8 => k_is)
    (case a9 => k_is)
    (case l9 => k_is)
    (case cd9k => k_is)
    (case k9 => k_is)
    (case a10 => k_is)
    (case l10 => k_is)
    (case cd10k => k_is)
    (case k10 => k_is)
    (case a11 => k_is)
    (case l11 => k_is)
    (case cd11k => k_is)
    (case k11 => k_is)
    (case a12 => k_is)
    (case l12 => k_is)
    (case cd12k => k_is)
    (case k12 => k_is)
    (case a13 => k_is)
    (case l13 => k_is)
    (case cd13k => k_is)
    (case k13 => k_is)
    (case q1 => k_is)
    (case q2 => k_is)
    (case q3 => k_is)
    (case q4 => k_is)
    (case q5 => k_is)
    (case q6 => k_is)
    (case z1 => k_is)
    (case z2 => k_is)
    (case z3 => k_is)
    (case z4 => k_is)
    (case z5 => k_is)
    (case z6 => k_is)
    (case z7 => k_is)
    (case z8 => k_is)
    (case kn => first | rfl | decide +kernel)
    (case tb => first | k_is | rfl | decide +kernel)
    (case nT => first | k_is | rfl | decide +kernel)
