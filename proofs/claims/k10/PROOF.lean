import PyProof.Rows.All
import Wide.All
import OpenK.AllK
import Wide.FinOn
import HandS.ForMost
import HandS.AnyAll
import HandS.EndBits
import HandS.EndTab
import HandS.More
import HandS.IsInst
import HandS.Evl
import HandS.Walk
import HandS.SortKw
import HandS.SortInts
import HandS.ListItems
import HandS.WordsExc
import HandS.NoneIn
import HandS.Finally
import KE.KMinKey
import PyProof.SeqI3
import PyProof.DictUpdate
import HandS.DictComp
import HandS.ForExc
import HandS.Defaults
import HandS.ExcIs
import HandS.SetFor
import HandS.Deep
import HandS.FStr
import HandS.Text
import HandS.ExcInit
import HandS.ExcField
import OpenK.KWalk
import HandS.Conv
import PySem.Challenge.RW_cuehall_k10_texts_not_read
set_option Elab.async false
set_option linter.all false
set_option maxRecDepth 100000
set_option maxHeartbeats 2000000
/-! all, any of a generator expression over a text whose element may call a small def; the table of code objects is tracked by its word alone, so that the abstract heap stays as it is -/
namespace GX
open PySem PySem.Spec PyProof.Rows L2
/-- a table of code objects stands at P -/
def TabP (P : Addr) (h : Heap) : Prop := ∃ tb : Array Value, h.get? P = some { cls := .none, data := .fields tb } ∧ TriplesOk tb.toList
abbrev TabX (H : Hp) (P : Addr) : Prop := H P = some (HO.ext (TabP P))
theorem tabP_ok {Pr : Program} {w : World} {H : Hp} {h : Heap} {P : Addr} (t : TabP P h) : ObjOk Pr w H h P (HO.ext (TabP P)) :=
  ⟨t, let ⟨_, e, _⟩ := t; ⟨_, e⟩, fun _ _ ⟨tb, e, q⟩ k => ⟨tb, k _ e, q⟩⟩
section
variable {X : Cx} {pins : List (Addr × Obj)} {σ : L2.St} {H : Hp} {s : Shared}
/-- the table at P may have grown, all else that stood is kept -/
theorem inv_grown {P : Addr} {h2 : Heap} {gs : Array GenState} {dr : Drawn} {tk : Nat} (I : Inv X pins σ H s) (hP : TabX H P)
    (keep : ∀ b o, b ≠ P → s.heap.get? b = some o → h2.get? b = some o) (tab : TabP P h2) (bare : AllBare gs) :
    Inv X pins σ H { s with heap := h2, gens := gs, drawn := dr, toks := tk } := by
  have apart : ∀ {b : Addr}, H b = none → b ≠ P := fun {b} n z => by
    rw [z, hP] at n
    cases n
  have apartO : ∀ {b x : Addr}, H b = some (.own x) → b ≠ P := fun {b x} n z => by
    rw [z, hP] at n
    cases n
  refine I.step (g' := gs) (d' := dr) (t' := tk) (ch := []) (fun b hb => nomatch hb) (fun b o _ _ _ e n => keep b o (apart n) e)
    (fun b o _ _ _ e n => ⟨o.slots, keep b o (apart n) e⟩) (fun _ _ _ _ n => n) (fun b o _ e => ?_) (fun _ _ q => q) (fun _ _ _ q => q)
    (fun b tb q => ⟨#[], by rw [q, Array.append_empty]⟩) (fun m hn => ?_) (fun b u e => ?_) bare
  · by_cases z : b = P
    · obtain ⟨tb, q, _⟩ := tab
      exact ⟨_, by rw [z]; exact q⟩
    · exact ⟨o, keep b o z e⟩
  · obtain ⟨ob, es, ep, e, r⟩ := hn
    exact ⟨ob, es, ep, keep _ ob (apart I.free) e, r⟩
  · by_cases z : b = P
    · have e2 : some u = some (HO.ext (TabP P)) := e.symm.trans (by rw [z]; exact hP)
      rw [z, Option.some.inj e2]
      exact tabP_ok tab
    · refine (I.hok b u e).stay (fun c v hc q => keep c v ?_ q) (fun _ q => q) fun _ _ q => q
      rcases hc with y | y
      · rw [y]; exact z
      · exact apartO y
/-- the element, a test of the sign c; it may call: A' has some room, the module's things stand -/
def EltC (X : Cx) (scope : Scope) (x : Str) (elt : Expr) (pb : Nat → Bool) : Prop :=
  ∀ (cenv : Env) (A' : Around) (E' : Value → Shared → Prop) (c : Nat) (t : Tok) (s2 : Shared) (m2 : Str → Option Value), cenv.scope = scope → cenv.globals = mainGlobals → cenv.builtins = builtinsNs →
    L2.Mod X.K X.mg X.base → A'.handled = none → A'.depth ≤ X.A.depth + 1 → A'.units ≤ X.A.units + 8 → (∀ b o, X.base.get? b = some o → s2.heap.get? b = some o) → s2.heap.Ns cenv.locals m2 → m2 x = some (.str ⟨#[c]⟩ t) →
    wpAny (model X.prog X.w) A' (eval elt cenv) (fun y s3 => y = .bool (pb c) ∧ Keeps s2 s3) E' s2
/-- the generator g over the signs of a, ready to be drawn from -/
def ReadyX (X : Cx) (pins : List (Addr × Obj)) (σ : L2.St) (H1 : Hp) (a : Str) (pb : Nat → Bool) (g : Addr) (s5 : Shared) : Prop :=
  ∃ (fp wr : List Addr) (G : Array GenState → Array GenState → Prop) (F : Nat → Value → Prop) (Stn : Nat → Shared → Prop),
    WalksS X.prog X.w X.A.in1 g fp wr G a.cps.size F Stn ∧ Stn 0 s5 ∧ TruthOf X.prog X.w X.A.in1 F (GxR.trF pb a.cps.toList) ∧ ∀ s6, Moved wr G s5 s6 → Inv X pins σ H1 s6
theorem gen_ready {c P : Addr} {elt iter : Expr} {x : Str} {px gpos : Pos} {scope : Scope} {pb : Nat → Bool} {te : TE} {k : Nat} {Z : Value → Shared → Prop} {R : Str → Hp → Prop}
    (hr : Room k X.A) (TB : GxR.TabB X.base X.mg c P) (hcode : X.env.code = .ref c) (S : GxR.GenS X.env scope x) (hi : PE X iter te) (hel : EltC X scope x elt pb) (hs : ∀ v, genFold iter X.env v = pure v)
    (I : Inv X pins σ H s) (h : te σ H fun v H1 => ∃ a : Str, v = .str a ∧ TabX H1 P ∧ R a H1) (hZ : ∀ a H1 g s5, R a H1 → ReadyX X pins σ H1 a pb g s5 → Z (.ref g) s5) :
    wpAny (model X.prog X.w) X.A (eval (.GeneratorExp elt [⟨.Name x px, iter, [], 0⟩] scope gpos) X.env) Z X.xe s := by
  have room : X.A.depth < recursionLimit := hr.depth
  refine wpAny_GeneratorExp_walksQD hr.hd S.co (closure_ok S.free) S.cell S.dot S.loc S.kind room ?_ hs
  refine thn (hi.run pins s σ H _ I h) fun xv s1 ⟨v, H1, I1, rv, q⟩ => ?_
  obtain ⟨a, rfl, hP, q⟩ := q
  obtain ⟨t, rfl⟩ := _root_.id rv
  refine wpAny_pyIter_str fun ob Stw W hst => ?_
  obtain ⟨⟨tb, eP, htr⟩, _, _⟩ : ObjOk X.prog X.w H1 s1.heap P (HO.ext (TabP P)) := I1.hok P _ hP
  have ltP : P < s1.heap.objs.size := Heap.lt_size eP
  have pushed : ∀ {b : Addr} {o : Obj}, s1.heap.get? b = some o → (s1.heap.push ob).get? b = some o := fun e => Heap.get?_push_of_some _ e
  have sz : (s1.heap.push ob).objs.size = s1.heap.objs.size + 1 := Heap.size_push ..
  have cd : PySem.W.CodeHd (s1.heap.push ob) c P := TB.code.keeps fun b o e => pushed (I1.bk b o e)
  have lim : (s1.heap.push ob).NoLimit := I1.nolimit.push ob
  have notP : ∀ b o, X.base.get? b = some o → b ≠ P := fun b o e z => by
    have n := (I1.bs b o e).2
    rw [z, hP] at n
    cases n
  have rest : ∀ (code : Value) (h3 : Heap) (tk : Nat) (tb3 : Array Value), Heap.ExtBut P (s1.heap.push ob) h3 → (s1.heap.push ob).objs.size ≤ h3.objs.size → h3.get? P = some { cls := .none, data := .fields tb3 } → TriplesOk tb3.toList →
      wpAny (model X.prog X.w) X.A (builtinsFor X.env.globals X.env.builtins) (fun bi s4 =>
        ∃ Ia fp wr n0 Pf St0 pz F, Value.ref s1.heap.objs.size = .ref Ia ∧ (∀ A' : Around, A'.handled = none → Walks X.prog X.w A' Ia fp wr n0 Pf St0) ∧ St0 0 s4.heap ∧ (∀ b ∈ fp, b < s4.heap.objs.size) ∧ s4.heap.NoLimit ∧ cStatics ∉ wr ∧
          (∀ href : Heap, (∀ b o, s4.heap.get? b = some o → href.get? b = some o) →
            QuietGenD X.prog X.w (genEnv scope (cloFrom X.env.cells scope.names []) s4.heap.objs.size code bi X.env) x [] elt (List.range s4.heap.objs.size) wr Pf pz F href (X.A.depth + 1) (X.A.units + 8)) ∧
          (∀ b h5 tk5 gs, gs.bare = true → s4.heap.objs.size < b → h5.objs.size = b + 1 → (∀ d o, s4.heap.get? d = some o → h5.get? d = some o) →
            WalksS X.prog X.w X.A.in4 b (b :: s4.heap.objs.size :: List.range s4.heap.objs.size) (s4.heap.objs.size :: wr) (GenOnlyQ s4.gens.size) (passing pz n0 0).length
              (fun j y => ∃ i, (passing pz n0 0)[j]? = some i ∧ F i y) (GenAt X.prog X.w X.A.in4 b s4.gens.size s4.heap.objs.size (List.range s4.heap.objs.size) wr pz n0 F) →
            GenAt X.prog X.w X.A.in4 b s4.gens.size s4.heap.objs.size (List.range s4.heap.objs.size) wr pz n0 F 0 { s4 with gens := s4.gens.push gs, toks := tk5, heap := h5 } →
            Z (.ref b) { s4 with gens := s4.gens.push gs, toks := tk5, heap := h5 })) X.xe { s1 with heap := h3, toks := tk } := by
    intro code h3 tk tb3 grown size3 tab3 htr3
    obtain ⟨bm, bo, m1, m2, m3, m4, m5, m6, m7, m8⟩ := TB.bm
    have keep3 : ∀ b o, b ≠ P → s1.heap.get? b = some o → h3.get? b = some o := fun b o n e => grown b o n (pushed e)
    have base3 : ∀ b o, X.base.get? b = some o → h3.get? b = some o := fun b o e => keep3 b o (notP b o e) (I1.bk b o e)
    have csP : cStatics ≠ P := fun z => by
      obtain ⟨_, ⟨o, es, ep, ho, hd, _⟩, _⟩ := I1.nolimit
      rw [z, eP] at ho
      cases ho
      cases hd
    have csl : cStatics < s1.heap.objs.size := let ⟨_, hn, _⟩ := I1.nolimit; hn.lt
    have glob3 : h3.Ns X.env.globals X.mg := by rw [I1.ok.glob]; exact I1.mod.glob.keeps base3
    refine wpAny_builtinsFor glob3 m1 m2 (base3 _ _ m5) m6 m7 m8 ?_
    refine ⟨s1.heap.objs.size, [s1.heap.objs.size], [s1.heap.objs.size], a.cps.size, SignAt a, Stw, fun _ => true, fun i y => ∃ cc, a.cps[i]? = some cc ∧ y = .bool (pb cc), rfl, W, ?_, ?_, lim.extBut grown csP, ?_, ?_, ?_⟩
    · refine (W X.A hr.hd).frame _ _ _ hst fun b hb o e => grown b o (fun z => ?_) e
      have z2 : b = s1.heap.objs.size := by simpa using hb
      exact Nat.ne_of_lt ltP (z.symm.trans z2)
    · intro b hb
      have z : b = s1.heap.objs.size := by simpa using hb
      have q9 : (s1.heap.objs.size : Nat) < h3.objs.size := by omega
      rw [z]
      exact q9
    · intro hb
      have z : cStatics = s1.heap.objs.size := by simpa using hb
      exact Nat.ne_of_lt csl z
    · intro href hk
      refine ⟨fun A' E' i v s2 mm hA hD hU hPv hn hm hkp => ?_, fun A' E' i v s2 mm hA hD hU hPv _ hn hm hkp => ?_⟩
      · simp only [List.forIn_nil]
        exact wpAny_pure ⟨rfl, GxR.keeps_refl _⟩
      · obtain ⟨cc, u, hcc, rfl⟩ := hPv
        refine wpAny_mono (hel _ A' E' cc u s2 mm rfl I1.ok.glob rfl I1.mod hA hD hU (fun b o e => ?_) hn hm) (fun y s3 r => ⟨⟨cc, hcc, r.1⟩, r.2⟩) fun _ _ e => e
        have e3 := base3 b o e
        refine hkp b (List.mem_range.mpr (Heap.lt_size e3)) (fun hb => ?_) o (hk b o e3)
        have z : b = s1.heap.objs.size := by simpa using hb
        exact Nat.ne_of_lt (Heap.lt_size (I1.bk b o e)) z
    · intro g h5 tk5 gs hgb hag hsz5 hk5 W5 hat
      simp only [GxR.passing_true, List.length_range] at W5
      refine hZ a H1 g _ q ⟨_, _, _, _, _, W5.in4_1, hat, ?_, fun s6 hm => ?_⟩
      · intro j y sj Qj Ej hy hQj
        obtain ⟨i, hij, cc, hcc, rfl⟩ := hy
        obtain ⟨hj, ej⟩ := List.getElem?_eq_some_iff.mp hij
        rw [List.getElem_range] at ej
        subst ej
        have e9 : a.cps.toList[j]? = some cc := by rw [Array.getElem?_toList]; exact hcc
        have hQ2 : Qj (GxR.trF pb a.cps.toList j) sj := hQj
        rw [GxR.trF_some e9] at hQ2
        exact wpAny_truthy_bool hQ2
      · have far : ∀ b o, s1.heap.get? b = some o → b ∉ h3.objs.size :: [s1.heap.objs.size] := fun b o e hb => by
          have hl := Heap.lt_size e
          have z : b = h3.objs.size ∨ b = s1.heap.objs.size := by simpa using hb
          rcases z with z | z
          · rw [z] at hl
            have h9 : (h3.objs.size : Nat) < s1.heap.objs.size := hl
            omega
          · rw [z] at hl
            exact Nat.lt_irrefl _ hl
        have J := inv_grown (h2 := s6.heap) (gs := s6.gens) (dr := s6.drawn) (tk := s6.toks) I1 hP (fun b o n e => hm.heap b o (far b o e) (hk5 b o (keep3 b o n e))) ⟨tb3, hm.heap P _ (far P _ eP) (hk5 P _ tab3), htr3⟩ (AllBare.movedS (I1.bare.push hgb) hm)
        rw [GxR.sh_eta s1 s6 hm.os] at J
        exact J
  refine ⟨lim, ?_⟩
  cases hf : codeAmong gpos tb.toList with
  | none =>
    refine wpAny_genexprCodeX hcode (cd.code (pushed eP) htr) (cd.tab (pushed eP)) hf fun c2 h3 tk hx hge hlt hco2 _ htab2 _ => ?_
    obtain ⟨o1, vs, f1, tf, fl, tg, inF, tx, tt, op, _, _, _, _, _, _, _, _, _, htr2, _⟩ := hco2
    exact rest _ h3 tk _ hx (Nat.le_trans hge (Nat.le_of_lt hlt)) htab2.2 htr2
  | some cv =>
    refine wpAny_genexprCode_hit hcode (cd.code (pushed eP) htr) hf ?_
    exact rest cv (s1.heap.push ob) s1.toks tb (Heap.ExtBut.refl _ _) (Nat.le_refl _) (pushed eP) htr
/-- all(test for x in e), any(..): e a text; the abstract heap stays -/
def tAllX (P : Addr) (pb : Nat → Bool) (te : TE) : TE := fun σ H Q => te σ H fun v H1 => ∃ a : Str, v = .str a ∧ TabX H1 P ∧ Q (.bl (a.cps.toList.all pb)) H1
def tAnyX (P : Addr) (pb : Nat → Bool) (te : TE) : TE := fun σ H Q => te σ H fun v H1 => ∃ a : Str, v = .str a ∧ TabX H1 P ∧ Q (.bl (a.cps.toList.any pb)) H1
theorem pe_allX {c P : Addr} {elt iter : Expr} {x : Str} {px p pos gpos : Pos} {scope : Scope} {pb : Nat → Bool} {te : TE} {k : Nat} (hr : Room k X.A) (hg : Gl X "all") (hm : X.mg "all" = none)
    (TB : GxR.TabB X.base X.mg c P) (hcode : X.env.code = .ref c) (S : GxR.GenS X.env scope x) (hi : PE X iter te) (hel : EltC X scope x elt pb) (hs : ∀ v, genFold iter X.env v = pure v)
    (he : starEach [.GeneratorExp elt [⟨.Name x px, iter, [], 0⟩] scope gpos] X.env = (false, eval (.GeneratorExp elt [⟨.Name x px, iter, [], 0⟩] scope gpos) X.env) :: starEach [] X.env := by rfl) :
    PE X (.Call (.Name "all" p) [.GeneratorExp elt [⟨.Name x px, iter, [], 0⟩] scope gpos] [] pos) (tAllX P pb te) := by
  refine ⟨fun pins s σ H Q I h => wpAny_Call_Name_kw (ld_blt I hg hm (by decide +kernel : bootBuiltins "all" = some (.builtin "all")) (PyProof.Rows.callWith_builtin1 ?_ he (by rfl)))⟩
  rw [he]
  refine Calls.spliced_cons (gen_ready (R := fun a H1 => Q (.bl (a.cps.toList.all pb)) H1) hr TB hcode S hi hel hs I h fun a H1 g s5 hR ⟨fp, wr, G, F, Stn, W, hst, htr, hI⟩ => Calls.spliced_nil ?_)
  refine call_all_walkS (W.self 0 _ _ _ hst ⟨g, fp, wr, G, _, F, Stn, _, rfl, W, hst, htr, fun s6 hmv => ⟨.bl _, H1, hI s6 hmv, rfl, ?_⟩⟩)
  rw [GxR.all_signs a pb]
  exact hR
theorem pe_anyX {c P : Addr} {elt iter : Expr} {x : Str} {px p pos gpos : Pos} {scope : Scope} {pb : Nat → Bool} {te : TE} {k : Nat} (hr : Room k X.A) (hg : Gl X "any") (hm : X.mg "any" = none)
    (TB : GxR.TabB X.base X.mg c P) (hcode : X.env.code = .ref c) (S : GxR.GenS X.env scope x) (hi : PE X iter te) (hel : EltC X scope x elt pb) (hs : ∀ v, genFold iter X.env v = pure v)
    (he : starEach [.GeneratorExp elt [⟨.Name x px, iter, [], 0⟩] scope gpos] X.env = (false, eval (.GeneratorExp elt [⟨.Name x px, iter, [], 0⟩] scope gpos) X.env) :: starEach [] X.env := by rfl) :
    PE X (.Call (.Name "any" p) [.GeneratorExp elt [⟨.Name x px, iter, [], 0⟩] scope gpos] [] pos) (tAnyX P pb te) := by
  refine ⟨fun pins s σ H Q I h => wpAny_Call_Name_kw (ld_blt I hg hm boot_any (PyProof.Rows.callWith_builtin1 ?_ he (by rfl)))⟩
  rw [he]
  refine Calls.spliced_cons (gen_ready (R := fun a H1 => Q (.bl (a.cps.toList.any pb)) H1) hr TB hcode S hi hel hs I h fun a H1 g s5 hR ⟨fp, wr, G, F, Stn, W, hst, htr, hI⟩ => Calls.spliced_nil ?_)
  refine call_any_walkS (W.self 0 _ _ _ hst ⟨g, fp, wr, G, _, F, Stn, _, rfl, W, hst, htr, fun s6 hmv => ⟨.bl _, H1, hI s6 hmv, rfl, ?_⟩⟩)
  rw [GxR.any_signs a pb]
  exact hR
theorem gens_mk {env : Env} {scope : Scope} {x : Str} (h1 : scope.kind = .function) (h2 : scope.isCoroutine = false) (h3 : (scope.names.all fun y => y.2 != .cell && y.2 != .free) = true) (h4 : scope.names.lookup (".0" : Str) = some NameKind.local)
    (h5 : scope.names.lookup x = some .local) : GxR.GenS env scope x := by
  rw [List.all_eq_true] at h3
  refine ⟨h1, h2, fun y hy e => ?_, h4, h5, fun y hy e => ?_⟩
  · have := h3 y hy
    rw [e] at this
    exact absurd this (by decide)
  · have := h3 y hy
    rw [e] at this
    exact absurd this (by decide)
/-- a def f of one sign, a test: whoever calls it, whatever runs around -/
def SmallD (Pr : Program) (w : World) (K : PySem.W.Frag) (f : Addr) (pb : Nat → Bool) : Prop :=
  ∀ (A : Around) (s : Shared) (c : Nat) (t : Tok), A.handled = none → A.depth < recursionLimit → K.In s.heap → s.heap.NoLimit →
    codeAny (model Pr w) A (.call (.ref f) ⟨[.str ⟨#[c]⟩ t], []⟩) (fun r s3 => r = .ok (.ret (.bool (pb c))) ∧ Keeps s s3) s
theorem elt_call {scope : Scope} {x fn : Str} {f : Addr} {pb : Nat → Bool} {p1 p2 p3 : Pos} {k : Nat} (D : SmallD X.prog X.w X.K f pb) (hr : Room k X.A) (hm : X.mg fn = some (.ref f)) (hk : PySem.W.keepIn X.K (.ref f) = true)
    (sk : scope.kind = .function) (sx : scope.names.lookup x = some .local) (sf : scope.names.lookup fn = some .globalImplicit) (dx : (x == ("__debug__" : Str)) = false := by decide) (df : (fn == ("__debug__" : Str)) = false := by decide) :
    EltC X scope x (.Call (.Name fn p1) [.Name x p2] [] p3) pb := by
  intro cenv A' E' c t s2 m2 hs hg hb M hA hD _ hk2 hn hx
  have kin : X.K.In s2.heap := M.kin.keeps hk2
  have lim : s2.heap.NoLimit := M.nolimit.keeps hk2
  have kf : cenv.scope.kind = .function := by rw [hs]; exact sk
  refine wpAny_Call_Name_kw (Calls.Name_function_global kf (by show cenv.scope.names.lookup fn = _; rw [hs]; exact sf) (Calls.loadGlobal_global (by rw [hg]; exact M.glob.keeps hk2) hm ?_) df)
  refine PySem.W.callWith_K (h₀ := X.base) M.kin hk (args_cons ?_)
  refine wpAny_Name (wpAny_loadName_local kf (by show cenv.scope.names.lookup x = _; rw [hs]; exact sx) hn hx (args_nil ⟨kin, ?_⟩)) dx
  refine wpAny_call (codeAny_mono (D A' s2 c t hA (Nat.lt_of_le_of_lt hD (by have := hr.dp; omega)) kin lim) fun r s3 h => ?_)
  obtain ⟨rfl, h⟩ := h
  exact ⟨rfl, h⟩
end
end GX

/-! the end of a law's row where tables of code objects are tracked by their word (GX.TabX) -/
namespace LX
open PySem PySem.Spec PyProof.Rows L2 GX
/-- the heap at the law's entry: the tables by their word, the script as it lies (unless the written part has it) -/
def H0 (K : PySem.W.Frag) (tabs : List Addr) (a : Addr) (ob : Obj) (xs : List V) : Hp := fun b =>
  if b ∈ tabs then some (.ext (TabP b)) else if b = a ∧ K.lookup a = none then some (.frz ob (.lst xs)) else none
theorem law_run {P : Program} {w : World} {K : PySem.W.Frag} {mg mb : Str → Option Value} {k : Nat} {fa a : Addr} {cs : List (Addr × Addr)} {fd : FuncData} {x : Str} {sp : Sp} {s : Shared} {vs : List Value} {ns : List Int}
    (KX : K.In s.heap) (hns : s.heap.Ns mainGlobals mg) (hb : s.heap.Ns builtinsNs mb) (hbb : ∀ y : Str, y ≠ "__name__" → mb y = bootBuiltins y) (hlim : s.heap.NoLimit) (hg : s.gens = #[])
    (hT : ∀ p ∈ cs, s.heap.get? p.2 = some { cls := .none, data := .fields #[] }) (nT : ∀ p ∈ cs, K.lookup p.2 = none) (C : ∀ p ∈ cs, PySem.W.CodeHd s.heap p.1 p.2)
    (hbm : ∃ (bm : Addr) (ob : Obj), mg "__builtins__" = some (.ref bm) ∧ bm ≠ builtinsNs ∧ s.heap.get? bm = some ob ∧ ob.cls = .type "module" ∧ ob.dict = some builtinsNs ∧ ob.data = .plain)
    (ha : s.heap.get? a = some { cls := .type "list", data := .seq vs.toArray }) (hi : IntsAre vs ns) (hl : ns.length ≤ sizeLine) (hr : Room k callerA)
    (F : ∀ base : Heap, L2.Mod K mg base → (∀ p ∈ cs, GxR.TabB base mg p.1 p.2) → FnOk P w K mg base CX0 k fa fd [x] sp) (hbind : ∀ (s : Shared) (u : Value), BindsTo s fd ⟨[u], []⟩ [(x, u)])
    (hsp : ∀ H : Hp, (∀ p ∈ cs, TabX H p.2) → SqL K H a (ns.map V.int) → sp [.ref a] H (fun v H' => v = .bl true ∧ ∀ p ∈ cs, H' p.2 = H p.2) fun _ _ _ => False) :
    codeAny (model P w) callerA (.call (.ref fa) ⟨[.ref a], []⟩) (fun r s' => r = .ok (.ret (.bool true)) ∧ OldK s.heap s'.heap ∧ s'.os = s.os ∧ AllBare s'.gens) s := by
  have rv := vals_ints hi
  -- the script, the tables: what they are in s
  have tabE : ∀ b ∈ cs.map (·.2), s.heap.get? b = some { cls := .none, data := .fields #[] } ∧ K.lookup b = none := fun b hb => by
    obtain ⟨p, hp, rfl⟩ := List.mem_map.mp hb
    exact ⟨hT p hp, nT p hp⟩
  have aN : a ∉ cs.map (·.2) := fun z => by
    have q := (tabE a z).1.symm.trans ha
    cases q
  obtain ⟨H, hH⟩ : ∃ H, H = H0 K (cs.map (·.2)) a { cls := .type "list", data := .seq vs.toArray } (ns.map V.int) := ⟨_, rfl⟩
  have atT : ∀ p ∈ cs, TabX H p.2 := fun p hp => by
    show H p.2 = _
    rw [hH]
    exact if_pos (List.mem_map.mpr ⟨p, hp, rfl⟩)
  have only : ∀ b u, H b = some u → (b ∈ cs.map (·.2) ∧ u = .ext (TabP b)) ∨ (b = a ∧ K.lookup a = none ∧ u = .frz { cls := .type "list", data := .seq vs.toArray } (.lst (ns.map V.int))) := fun b u e => by
    rw [hH] at e
    unfold H0 at e
    by_cases h1 : b ∈ cs.map (·.2)
    · rw [if_pos h1] at e
      exact .inl ⟨h1, (Option.some.inj e).symm⟩
    · rw [if_neg h1] at e
      by_cases h2 : b = a ∧ K.lookup a = none
      · rw [if_pos h2] at e
        exact .inr ⟨h2.1, h2.2, (Option.some.inj e).symm⟩
      · rw [if_neg h2] at e
        cases e
  -- what stands in s and is neither a list nor an empty record is not tracked
  have free : ∀ {b : Addr} {o : Obj}, s.heap.get? b = some o → (∀ its n, o.data ≠ .seq its n) → o.data ≠ .fields #[] → H b = none := fun {b o} e n1 n2 => by
    cases q : H b with
    | none => rfl
    | some u =>
      rcases only b u q with ⟨hb1, _⟩ | ⟨rfl, _⟩
      · rw [(tabE b hb1).1] at e
        cases e
        exact absurd rfl n2
      · rw [ha] at e
        cases e
        exact absurd rfl (n1 _ _)
  have freeK : ∀ b o, K.lookup b = some o → H b = none := fun b o e => by
    cases q : H b with
    | none => rfl
    | some u =>
      rcases only b u q with ⟨hb1, _⟩ | ⟨rfl, n, _⟩
      · rw [(tabE b hb1).2] at e
        cases e
      · rw [n] at e
        cases e
  have nsB : ∀ {b : Addr} {m : Str → Option Value}, s.heap.Ns b m → (hidT s.heap H).Ns b m := fun {b m} ⟨o, es, ep, e, d, r⟩ =>
    ⟨o, es, ep, hidT_get e (free e (fun its n z => by rw [d] at z; cases z) fun z => by rw [d] at z; cases z), d, r⟩
  have inB : K.In (hidT s.heap H) := fun b o e => hidT_get (KX b o e) (freeK b o e)
  have hM : L2.Mod K mg (hidT s.heap H) := ⟨inB, nsB hns, ⟨mb, nsB hb, hbb⟩, let ⟨mc, h1, h2⟩ := hlim; ⟨mc, nsB h1, h2⟩⟩
  have TB : ∀ p ∈ cs, GxR.TabB (hidT s.heap H) mg p.1 p.2 := fun p hp => by
    refine ⟨?_, ?_, fun z => ?_⟩
    · obtain ⟨o, us, file, tf, flags, tg, inF, text, tt, e1, r1, r2, r3, r⟩ := C p hp
      refine ⟨o, us, file, tf, flags, tg, inF, text, tt, hidT_get e1 (free e1 (fun its n z => by rw [r2] at z; cases z) fun z => ?_), r1, r2, r3, r⟩
      rw [r2] at z
      cases z
      simp at r3
    · obtain ⟨bm, ob, b1, b2, b3, b4, b5, b6⟩ := hbm
      have plain : ∀ {m : Addr}, m = bm → ∀ {o : Obj}, s.heap.get? m = some o → o.data = .plain := fun {m} z {o} e => by
        rw [z, b3] at e
        cases e
        exact b6
      refine ⟨bm, ob, b1, b2, fun q => ?_, fun q => ?_, hidT_get b3 (free b3 (fun its n z => by rw [b6] at z; cases z) fun z => by rw [b6] at z; cases z), b4, b5, b6⟩
      · obtain ⟨o, es, ep, e, hd, _⟩ := hns
        have := plain q.symm e
        rw [hd] at this
        cases this
      · have := plain q.symm (hT p hp)
        cases this
    · obtain ⟨o, es, ep, e, hd, _⟩ := hns
      rw [z, hT p hp] at e
      cases e
      cases hd
  have hok : HOk P w H s.heap := fun b u e => by
    rcases only b u e with ⟨h1, rfl⟩ | ⟨rfl, _, rfl⟩
    · exact tabP_ok ⟨#[], (tabE b h1).1, (show TriplesOk [] from True.intro)⟩
    · exact ⟨ha, by rw [List.length_map]; exact hl, vs, _, rv, ha⟩
  have hS : SqL K H a (ns.map V.int) := by
    cases hk : K.lookup a with
    | none =>
      refine .inl (.inr ⟨{ cls := .type "list", data := .seq vs.toArray }, ?_⟩)
      rw [hH]
      exact (if_neg aN).trans (if_pos ⟨rfl, hk⟩)
    | some o =>
      have e := (KX a o hk).symm.trans ha
      cases e
      exact .inr ⟨_, vs.toArray, _, hk, rfl, rfl, rfl, by rw [List.size_toArray, hi.length]; exact hl, by simpa using rv⟩
  have e0 : Env0 P w K mg (hidT s.heap H) callerA [] s H := ⟨rfl, hM, fun b o e => of_hidT e, Nat.le_of_eq (hidT_size _ _), trivial, fun b hb => absurd (show b ∈ ([] : List Addr) from hb) (by simp), hok, .of_eq hg⟩
  refine codeAny_mono ((F _ hM TB).run callerA [] s H ⟨[.ref a], []⟩ [.ref a] [.ref a] _ _ hr e0 (hbind s (.ref a)) (.cons rfl .nil) (hsp H atT hS)) fun r s' h => ?_
  cases r with
  | error e => exact h.elim
  | ok fl =>
    cases fl with
    | next => exact False.elim h
    | brk => exact False.elim h
    | cont => exact False.elim h
    | ret u =>
      obtain ⟨v, H', os, bare, un, hok', r', q, qT⟩ := h
      subst q
      obtain rfl : u = Value.bool true := r'
      have rest : ∀ b o, b ∉ cs.map (·.2) → s.heap.get? b = some o → s'.heap.get? b = some o := fun b o nb e => by
        cases q : H b with
        | none => exact un.keep b o e q (by intro z; exact absurd (show b ∈ ([] : List Addr) from z) (by simp)) (by simp)
        | some u =>
          rcases only b u q with ⟨h1, _⟩ | ⟨rfl, _, rfl⟩
          · exact absurd h1 nb
          · have e1 := (hok b _ q).1
            rw [e] at e1
            cases e1
            exact (hok' b _ (un.frzs b _ _ q)).1
      have grown : ∀ p ∈ cs, ∃ tb : Array Value, s'.heap.get? p.2 = some { cls := .none, data := .fields tb } := fun p hp => by
        have z : H' p.2 = some (.ext (TabP p.2)) := (qT p hp).trans (atT p hp)
        obtain ⟨⟨tb, e, _⟩, _⟩ := hok' p.2 _ z
        exact ⟨tb, e⟩
      refine ⟨rfl, ⟨fun b o e => ?_, fun b o e => ?_⟩, os, bare⟩
      · by_cases hb : b ∈ cs.map (·.2)
        · obtain ⟨p, hp, rfl⟩ := List.mem_map.mp hb
          obtain ⟨tb, hm⟩ := grown p hp
          rw [hT p hp] at e
          cases e
          exact .inr (.inl ⟨((C p hp).tab (hT p hp)).isCodeTable, rfl, #[], tb, rfl, by rw [Array.empty_append]; exact hm⟩)
        · exact .inl (rest b o hb e)
      · by_cases hb : b ∈ cs.map (·.2)
        · obtain ⟨p, hp, rfl⟩ := List.mem_map.mp hb
          obtain ⟨tb, hm⟩ := grown p hp
          exact ⟨_, hm⟩
        · exact ⟨o, rest b o hb e⟩
/-- what is known of the law's promise: the law's def, the tables, its promise -/
def LawAt (l : PySem.W.OpenLaw) (w : World) (K : PySem.W.Frag) (k n : Nat) (x : Str) (mg : Str → Option Value) (fa : Addr) (h : Heap) : Prop :=
  ∃ (fd : FuncData) (cs : List (Addr × Addr)) (sp : Sp), (∀ p ∈ cs, h.get? p.2 = some { cls := .none, data := .fields #[] }) ∧ (∀ p ∈ cs, K.lookup p.2 = none) ∧ (∀ p ∈ cs, PySem.W.CodeHd h p.1 p.2) ∧
    (∀ (s : Shared) (u : Value), BindsTo s fd ⟨[u], []⟩ [(x, u)]) ∧
    (∀ (H : Hp) (a : Addr) (ns : List Int), ns.length ≤ n → (∀ z ∈ ns, Builtin.Int.intBits z ≤ 1048576) → (∀ p ∈ cs, TabX H p.2) → SqL K H a (ns.map V.int) → sp [.ref a] H (fun v H' => v = .bl true ∧ ∀ p ∈ cs, H' p.2 = H p.2) fun _ _ _ => False) ∧
    ∀ base : Heap, L2.Mod K mg base → (∀ p ∈ cs, GxR.TabB base mg p.1 p.2) → FnOk l.prog w K mg base CX0 k fa fd [x] sp
theorem walk {l : PySem.W.OpenLaw} {n k : Nat} {q : Program} {loose : List Str} {XP : (Str → Option Value) → Heap → Prop} {YP : World → Heap → Prop} {d : DefRec} {K : Params → PySem.W.Frag} {x : Str}
    (hn : l.most = some n) (hn2 : n ≤ sizeLine) (hdf : d.params.defaults = []) (hr : Room k callerA) (hY : ∀ (w : World) (h : Heap), YP w h → (K w.params).In h)
    (F : ∀ (w : World) (mg : Str → Option Value) (fa : Addr) (h : Heap), (K w.params).In h → h.Ns mainGlobals mg → mg d.name = some (.ref fa) →
      (∀ (y : Str) (c P : Addr), ((recsOf q).any fun e => e.name == y) = true → PySem.W.tabIn (K w.params) y = some (c, P) → PySem.W.CodeHd h c P ∧ h.get? P = some { cls := .none, data := .fields #[] }) → LawAt l w (K w.params) k n x mg fa h) :
    PySem.W.WalkO q loose XP YP l.row.toRowW d [] (fun f vs => PySem.call f vs) := by
  refine Att.attach_callB hn hdf fun w s0 s1 mg mb fa o pm cd doc a vs ns G Y ho hd hcd hmg hobj hints hlen hbits hg => ?_
  have KX := hY w _ Y
  obtain ⟨fd, cs, sp, hT, nT, C, hb, hsp, hF⟩ := F w mg fa _ KX G.T.g hmg fun y c P hy ht => by
    obtain ⟨dL, hm, hnm⟩ := List.any_eq_true.mp hy
    obtain rfl : dL.name = y := beq_iff_eq.mp hnm
    obtain ⟨f, o2, fd2, c2, P2, h1, h2, h3, h4, h5, h6⟩ := G.T.tab dL hm
    unfold PySem.W.tabIn at ht
    split at ht
    · rename_i f' hf
      have e1 := (PySem.W.mg_of KX G.T.g hf).symm.trans h1
      cases e1
      split at ht
      · rename_i oc od fd' sl hk
        have e2 := (KX _ _ hk).symm.trans h2
        cases e2
        cases h3
        rw [h4] at ht
        dsimp only at ht
        split at ht
        · rename_i e dd us sl2 hc
          split at ht
          · rename_i Pv hv
            cases ht
            have e3 := KX _ _ hc
            obtain ⟨⟨o5, v5, e5, _, e6, e7⟩, hP⟩ := _root_.id h6
            rw [e3] at e5
            cases e5
            cases e6
            rw [hv] at e7
            cases e7
            exact ⟨PySem.W.CodeHd.of h5 h6, hP⟩
          · cases ht
        · cases ht
      · cases ht
    · cases ht
  exact law_run KX G.T.g G.T.b G.T.builtins G.T.nolimit hg hT nT C G.T.bmain hobj hints (Nat.le_trans hlen hn2) hr hF hb fun H hH hS => hsp H a ns hlen hbits hH hS
end LX

/-! words of ours over the layer: a def of the module by its name (Df, Dn), what its call asks, what expressions come to -/
namespace HB
open PySem PySem.Spec PyProof.Rows L2 Evl
/-- the def x of the text stands as a global of the module -/
structure Df (K : PySem.W.Frag) (mg : Str → Option Value) (x qual : Str) (st : Stmt) (ps : List Str) (ds : List Value) : Prop where
  ex : ∃ (f : Addr) (fd : FuncData), mg x = some (.ref f) ∧ Fun K x qual st f fd ∧ Binds K fd ps ds
/-- .. and keeps its promise -/
structure Dn (P : Program) (w : World) (K : PySem.W.Frag) (mg : Str → Option Value) (base : Heap) (x : Str) (k : Nat) (ps : List Str) (sp : Sp) : Prop where
  ex : ∃ (f : Addr) (fd : FuncData), mg x = some (.ref f) ∧ PySem.W.keepIn K (.ref f) = true ∧ Binds K fd ps [] ∧ FnOk P w K mg base CX0 k f fd ps sp
section
variable {P : Program} {w : World} {K : PySem.W.Frag} {mg : Str → Option Value} {base : Heap}
theorem Df.ok {x qual : Str} {st : Stmt} {N ps : List Str} {k : Nat} {sp : Sp} (D : Df K mg x qual st ps []) (S : FnScope N ps (defScope st)) (len : ∀ vs H Q E, sp vs H Q E → vs.length = ps.length)
    (body : ∀ (f : Addr) (cdv : Value) (A : Around) (outer : List Env) (s : Shared) (H : Hp) (vs : List V) (Q : VK) (E : XK), Room k (A.deeper (envOfC qual (defScope st) s.heap.objs.size f cdv)) → sp vs H Q E →
      ∃ t, PSs (cxOf CX0 P w K mg base N qual (defScope st) f cdv A outer s H E).nox (defBody st) t ∧ t { nx := fun _ H' => Q .non H', rt := Q } (start N vs) H) : Dn P w K mg base x (k + 1) ps sp := by
  obtain ⟨f, fd, m, F, b⟩ := D.ex
  exact ⟨f, fd, m, F.kp, b, F.ok S len (body f)⟩
theorem df_mk {x qual : Str} {st : Stmt} {ps : List Str} {f : Addr} {oc : Value} {od an : Option Addr} {osl : Array (Option Value)} {kV doc pm cdv ct : Value} (m : mg x = some (.ref f))
    (l : K.lookup f = some ⟨oc, od, .func (PySem.W.fnOf x qual (defArgs st) (defBody st) (defScope st) .none kV doc pm an cdv ct), osl⟩) (c : PySem.W.codeIn K cdv qual = true) (k : PySem.W.keepIn K (.ref f) = true)
    (h : ∀ (kV doc pm : Value) (an : Option Addr) (cdv ct : Value) (us : List Value), us.length = ps.length → bindArgs (PySem.W.fnOf x qual (defArgs st) (defBody st) (defScope st) .none kV doc pm an cdv ct) ⟨us, []⟩ = pure (ps.zip us)) : Df K mg x qual st ps [] :=
  ⟨f, _, m, fun_mk l c k, (fun_mk l c k).binds h⟩
end
/-- the def x of the text with its code object c -/
structure DfC (K : PySem.W.Frag) (mg : Str → Option Value) (x qual : Str) (st : Stmt) (ps : List Str) (c : Addr) : Prop where
  ex : ∃ (f : Addr) (oc : Value) (od : Option Addr) (kV doc pm : Value) (an : Option Addr) (ct : Value) (osl : Array (Option Value)), mg x = some (.ref f) ∧
    K.lookup f = some ⟨oc, od, .func (PySem.W.fnOf x qual (defArgs st) (defBody st) (defScope st) .none kV doc pm an (.ref c) ct), osl⟩ ∧ PySem.W.codeIn K (.ref c) qual = true ∧ PySem.W.keepIn K (.ref f) = true
  bd : ∀ (kV doc pm : Value) (an : Option Addr) (cdv ct : Value) (us : List Value), us.length = ps.length → bindArgs (PySem.W.fnOf x qual (defArgs st) (defBody st) (defScope st) .none kV doc pm an cdv ct) ⟨us, []⟩ = pure (ps.zip us)
theorem DfC.ok {P : Program} {w : World} {K : PySem.W.Frag} {mg : Str → Option Value} {base : Heap} {x qual : Str} {st : Stmt} {N ps : List Str} {k : Nat} {sp : Sp} {c : Addr} (D : DfC K mg x qual st ps c) (S : FnScope N ps (defScope st)) (len : ∀ vs H Q E, sp vs H Q E → vs.length = ps.length)
    (body : ∀ (f : Addr) (A : Around) (outer : List Env) (s : Shared) (H : Hp) (vs : List V) (Q : VK) (E : XK), Room k (A.deeper (envOfC qual (defScope st) s.heap.objs.size f (.ref c))) → sp vs H Q E →
      ∃ t, PSs (cxOf CX0 P w K mg base N qual (defScope st) f (.ref c) A outer s H E).nox (defBody st) t ∧ t { nx := fun _ H' => Q .non H', rt := Q } (start N vs) H) : Dn P w K mg base x (k + 1) ps sp := by
  obtain ⟨f, oc, od, kV, doc, pm, an, ct, osl, m, l, cd, kp⟩ := D.ex
  refine ⟨f, _, m, kp, (fun_mk l cd kp).binds D.bd, fn_of l cd S len fun A outer s H vs Q E hr h => ?_⟩
  obtain ⟨t, h1, h2⟩ := body f A outer s H vs Q E hr h
  exact ⟨t, h1.nox, h2⟩
section
variable {X : Cx}
/-- a call of such a def, of its name with arguments -/
theorem pe_dn {x : Str} {k : Nat} {ps : List Str} {sp : Sp} {e : Expr} {es : List Expr} {t : TA} {p pos : Pos} (D : Dn X.prog X.w X.K X.mg X.base x k ps sp) (hr : Room k X.A) (hg : Gl X x) (ha : PA X (e :: es) t)
    (hdb : (x == ("__debug__" : Str)) = false := by decide) (he : starEach (e :: es) X.env = (false, eval e X.env) :: starEach es X.env := by rfl) (hpl : (backTo pos (starEach es X.env)).any (·.1) = false := by rfl) :
    PE X (.Call (.Name x p) (e :: es) [] pos) (tCall sp [] E0 t) := by
  obtain ⟨f, fd, m, kp, b, F⟩ := D.ex
  exact pe_call F hr hg m kp b .nil pass0 ha hdb he hpl
/-- a number of the module's top -/
theorem pe_ci {x : Str} {n : Int} {pos : Pos} (h : ∃ t, X.mg x = some (.int n t)) (hg : Gl X x) (hd : (x == ("__debug__" : Str)) = false := by decide) : PE X (.Name x pos) (tC (.int n)) := by
  obtain ⟨t, m⟩ := h
  exact pe_glob hg m ⟨t, rfl⟩ hd
/-- a built-in class as a value -/
theorem pe_ty {x : Str} {T : String} {pos : Pos} (hm : X.mg x = none) (hg : Gl X x) (hv : bootBuiltins x = some (.type T)) (hn : x ≠ "__name__" := by decide) (hd : (x == ("__debug__" : Str)) = false := by decide) : PE X (.Name x pos) (tC (.ty T)) :=
  pe_bltn hg hm hv rfl hn hd
end
/-! ### what calls come to -/
section
variable {σ : L2.St} {H H' : Hp} {K : PySem.W.Frag} {x : V} {T : String}
theorem tyB_ex (e : Ex H H') (h : TyB K H x T) : TyB K H' x T := by
  cases h with
  | non => exact .non
  | bl b => exact .bl b
  | int i => exact .int i
  | str z => exact .str z
  | byt b => exact .byt b
  | lst h => exact .lst (ex_l e h)
  | tup h => exact .tup (ex_t e h)
  | dK h => exact .dK (e _ _ h)
theorem tyX_of (h : TyB K H x T) : TyX K H x (.type T) := by
  cases h with
  | non => exact .base .non
  | bl b => exact .base (.bl b)
  | int i => exact .base (.int i)
  | str z => exact .base (.str z)
  | byt b => exact .byt b
  | lst h =>
    rcases h with (h | ⟨o, h⟩) | ⟨o, its, n, h, c, _⟩
    · exact .base (.lst h)
    · exact .base (.frz h)
    · exact .kList h c
  | tup h =>
    rcases h with (h | ⟨o, h⟩) | ⟨o, its, n, h, c, _⟩
    · exact .base (.tup h)
    · exact .fTuple h
    · exact .kTuple h c
  | dK h => exact .base (.dK h)
/-- type(x) -/
theorem ev_type {te : TE} (h : Ev te σ H x) (ht : TyB K H x T) : Ev (tCB (rTyp K) (tCons te tNil)) σ H (.ty T) :=
  ev_cb (ea_cons h ea_nil) fun H1 e _ q => ⟨x, T, rfl, tyB_ex e ht, q H1 (Ex.refl H1)⟩
theorem ev_lenS {te : TE} {z : Str} (h : Ev te σ H (.str z)) (hz : z.length ≤ sizeLine) : Ev (tCB (fun xs H Q => ∃ z : Str, xs = [.str z] ∧ z.length ≤ sizeLine ∧ Q (.int z.length) H) (tCons te tNil)) σ H (.int z.length) :=
  ev_cb (ea_cons h ea_nil) fun H1 _ _ q => ⟨z, rfl, hz, q H1 (Ex.refl H1)⟩
theorem rv_NT {a b : String} : RV rNT (.ty a) (.ty b) H (.bl (!decide (a = b))) := fun H1 _ _ q => ⟨a, b, rfl, rfl, q H1 (Ex.refl H1)⟩
/-- isinstance(x, C), C a built-in class -/
theorem ev_isi {te tc : TE} {C : String} {b : Bool} (h : Ev te σ H x) (hc : Ev tc σ H (.ty C)) (ht : TyB K H x T) (hb : kitB T C = some b) : Ev (tCB (rIsi K) (tCons te (tCons tc tNil))) σ H (.bl b) :=
  ev_cb (ea_cons h (ea_cons hc ea_nil)) fun H1 e _ q => ⟨x, .ty C, .type T, .type C, b, rfl, .ty C, tyX_of (tyB_ex e ht), kit_ty hb, q H1 (Ex.refl H1)⟩
end
/-! ### promises of pure defs: R of the arguments and what comes back -/
/-- nothing of the heap is asked -/
def spS (R : List V → V → Prop) : Sp := fun vs H Q _ => ∃ z, R vs z ∧ RetV z H Q
/-- something of the heap is asked that stays where the heap grows -/
def spR (R : Hp → List V → V → Prop) : Sp := fun vs H Q _ => ∃ z, R H vs z ∧ RetV z H Q
/-- a new list comes back -/
def spL (R : Hp → List V → List V → Prop) : Sp := fun vs H Q _ => ∃ xs, R H vs xs ∧ RetL xs H Q
section
variable {σ : L2.St} {H H' : Hp} {z : V} {vs : List V} {E : XK} {ta : TA}
theorem el_callL {R : Hp → List V → List V → Prop} {xs : List V} (h : EvA ta σ H vs) (hR : ∀ H1, Ex H H1 → R H1 (vs ++ []) xs) : EvL (tCall (spL R) [] E ta) σ H xs :=
  el_call h fun H1 e Q q E => ⟨xs, hR H1 e, q⟩
theorem ev_callS {R : List V → V → Prop} (h : EvA ta σ H vs) (hR : R (vs ++ []) z) : Ev (tCall (spS R) [] E ta) σ H z :=
  ev_call h fun H1 _ Q q E => ⟨z, hR, q⟩
theorem ev_callR {R : Hp → List V → V → Prop} (h : EvA ta σ H vs) (hR : ∀ H1, Ex H H1 → R H1 (vs ++ []) z) : Ev (tCall (spR R) [] E ta) σ H z :=
  ev_call h fun H1 e Q q E => ⟨z, hR H1 e, q⟩
end
end HB
namespace HB
open PySem PySem.Spec PyProof.Rows L2 Evl
section
variable {X : Cx} {σ : L2.St} {H H' : Hp} {K : PySem.W.Frag} {x y z w v : V} {ta tb tc te : TE} {r r' : R2}
/-- list + list, each to be read -/
def rCatS (K : PySem.W.Frag) : R2 := fun x y H Q => ∃ l b xs zs, x = .ref l ∧ y = .ref b ∧ SqL K H l xs ∧ SqL K H b zs ∧ xs.length + zs.length ≤ sizeLine ∧ ∀ p, H p = none → Q (.ref p) (upd H p (.lst (xs ++ zs)))
theorem op_catS : OpR X (binaryOp .Add) (rCatS X.K) := by
  intro pins s σ H x y v u Q I rx ry h
  obtain ⟨l, b, xs, zs, rfl, rfl, hl, hb, hz, q⟩ := h
  cases rx
  cases ry
  obtain ⟨is1, r1, ⟨⟨c1, d1, b1, s1⟩, n1, g1, k1, k2, k3⟩, _⟩ := I.list hl
  obtain ⟨is2, r2, ⟨⟨c2, d2, b2, s2⟩, n2, g2, k4, k5, k6⟩, _⟩ := I.list hb
  simp only at k1 k2 k3 k4 k5 k6
  subst k1 k2 k3 k4 k5 k6
  have z1 := r1.length
  have z2 := r2.length
  have fit : is1.toArray.size + is2.toArray.size ≤ sizeLine := by rw [List.size_toArray, List.size_toArray]; omega
  have lay := I.lnew (t' := s.toks) (r1.append r2) (by rw [List.length_append]; omega)
  rw [← List.append_toArray] at lay
  exact concat_meets ⟨_, g1, rfl⟩ ⟨_, g2, rfl⟩ noFill_list_add seq_list_add PySem.F.slot_list_add PySem.F.entry_list_add (PySem.F.args_list_add_2 _ _) (list_addW l b is1.toArray is2.toArray n1 n2 none none s1 s2 fit) ⟨g1, g2, .ref _, _, lay, rfl, q _ I.fresh⟩
theorem ev_chain {a b : Bool} (ha : Ev ta σ H x) (hb : Ev tb σ H y) (hr : RV r x y H (.bl a)) (hc : a = true → Ev tc σ H w) (hr2 : a = true → RV r' y w H (.bl b)) : Ev (tChain r r' ta tb tc) σ H (.bl (a && b)) := fun H1 e Q q =>
  ha H1 e _ fun H2 e2 => hb H2 (e.trans e2) _ fun H3 e3 => hr H3 ((e.trans e2).trans e3) _ fun H4 e4 => ⟨a, rfl, by
    cases a with
    | true =>
      exact iteT (hc rfl H4 (((e.trans e2).trans e3).trans e4) _ fun H5 e5 => hr2 rfl H5 ((((e.trans e2).trans e3).trans e4).trans e5) Q fun H6 e6 => q H6 ((((e2.trans e3).trans e4).trans e5).trans e6))
    | false => exact iteF (q H4 ((e2.trans e3).trans e4))⟩
end
end HB
namespace HB
open PySem PySem.Spec PyProof.Rows L2 Evl
section
variable {σ : L2.St} {H H' : Hp} {K : PySem.W.Frag} {x y z w v : V} {ta tb tc te tl : TE} {t : TT}
/-- a list, and a new one, put together -/
theorem el_cat {l : Addr} {xs zs : List V} (ha : Ev ta σ H (.ref l)) (hl : H l = some (.lst xs)) (hb : EvL tb σ H zs) (hz : xs.length + zs.length ≤ 100000) : EvL (tOp rCat ta tb) σ H (xs ++ zs) := fun H1 e Q q =>
  ha H1 e _ fun H2 e2 => hb H2 (e.trans e2) _ fun b H3 _ e3 h3 => ⟨l, b, xs, zs, rfl, rfl, e3 _ _ (e2 _ _ (e _ _ hl)), h3, sz_of hz, fun p hp => q p _ (fresh_back (e2.trans e3) hp) ((e2.trans e3).trans (Ex.new hp)) upd_same⟩
theorem el_catS {l : Addr} {xs zs : List V} (ha : Ev ta σ H (.ref l)) (hl : SqL K H l xs) (hb : EvL tb σ H zs) (hz : xs.length + zs.length ≤ 100000) : EvL (tOp (rCatS K) ta tb) σ H (xs ++ zs) := fun H1 e Q q =>
  ha H1 e _ fun H2 e2 => hb H2 (e.trans e2) _ fun b H3 _ e3 h3 => ⟨l, b, xs, zs, rfl, rfl, ex_l ((e.trans e2).trans e3) hl, .of h3, sz_of hz, fun p hp => q p _ (fresh_back (e2.trans e3) hp) ((e2.trans e3).trans (Ex.new hp)) upd_same⟩
theorem mem_cutV {xs : List V} {lo hi : Option Int} {x : V} (h : x ∈ cutV xs lo hi) : x ∈ xs := by
  unfold cutV at h
  exact List.mem_of_mem_drop (List.mem_of_mem_take h)
theorem cutV_len (xs : List V) (lo hi : Option Int) : (cutV xs lo hi).length ≤ xs.length := by
  unfold cutV
  rw [List.length_take, List.length_drop]
  omega
/-- [.. for c in s if ..], s a text -/
theorem el_lcS {s : Str} {j : Nat} {vs : List Nat} (f : Nat → Bool) (g : Nat → V) (h : Ev tl σ H (.str s)) (hz : s.cps.size ≤ 40000) (hw : ∀ x, wipe ((wipe σ vs).set j (some x)) vs = wipe σ vs)
    (ht : ∀ (i c : Nat) H1, Ex H H1 → s.cps[i]? = some c → EvT t ((wipe σ vs).set j (some (.str ⟨#[c]⟩))) H1 (f i)) (he : ∀ (i c : Nat) H1, Ex H H1 → s.cps[i]? = some c → f i = true → Ev te ((wipe σ vs).set j (some (.str ⟨#[c]⟩))) H1 (g i)) :
    EvL (tLc (iStr tl) (gName j) t te vs) σ H (given s.cps.size f g) := fun H0 e Q q => h H0 e _ fun H1 e1 => ⟨s, rfl, fun D hD =>
  lc_it walk_str (Cw H1 f g D) ⟨hD, Ex.new hD, upd_same⟩ (fun _ _ _ _ => trivial) (fun i x Hb Hc hi p hy => by
    obtain ⟨rfl, c, hc, rfl⟩ := hy
    exact ⟨hw _, cw_turn p (by omega) (ht i c H1 (e.trans e1) hc) fun hf => he i c H1 (e.trans e1) hc hf⟩) fun Hb p => q D Hb (fresh_back e1 p.1) (e1.trans p.2.1) p.2.2⟩
theorem strOk_one {c : Nat} (h : c < 128) : PyData.strOk ⟨#[c]⟩ = true := by
  unfold PyData.strOk
  simp
  omega
theorem dpAll_map {α : Type} (f : α → V) (g : α → PyData) (h : ∀ a, Dp K H (f a) (g a)) : ∀ xs : List α, DpAll K H (xs.map f) (xs.map g)
  | [] => .nil
  | a :: r => .cons (h a) (dpAll_map f g h r)
theorem canLay_all {α : Type} (g : α → PyData) : ∀ xs : List α, (∀ a ∈ xs, (g a).canLay0 = true) → PyData.canLayAll0 (xs.map g) = true
  | [], _ => by rw [List.map_nil, PyData.canLayAll0]
  | a :: r, h => by rw [List.map_cons, PyData.canLayAll0, h a List.mem_cons_self, canLay_all g r fun b hb => h b (List.mem_cons_of_mem _ hb)]; rfl
theorem depth_all {α : Type} (g : α → PyData) (n : Nat) : ∀ xs : List α, (∀ a ∈ xs, (g a).depth ≤ n) → PyData.depthAll (xs.map g) ≤ n
  | [], _ => by rw [List.map_nil, PyData.depthAll]; exact Nat.zero_le _
  | a :: r, h => by
    rw [List.map_cons, PyData.depthAll]
    exact Nat.max_le.mpr ⟨h a List.mem_cons_self, depth_all g n r fun b hb => h b (List.mem_cons_of_mem _ hb)⟩
theorem shaped_list {α : Type} (g : α → PyData) (xs : List α) (h1 : ∀ a ∈ xs, (g a).canLay0 = true) (h2 : ∀ a ∈ xs, (g a).depth ≤ 63) : SeqAt.shaped (.list (xs.map g)) = true := by
  unfold SeqAt.shaped
  rw [PyData.canLay0, canLay_all g xs h1, PyData.depth]
  exact decide_eq_true (by have := depth_all g 63 xs h2; omega)
theorem rv_niS {c : Nat} {z : Str} : RV (fun x y H Q => ∃ (c : Nat) (z : Str), x = .str ⟨#[c]⟩ ∧ y = .str z ∧ Q (.bl (!decide (c ∈ z.cps.toList))) H) (.str ⟨#[c]⟩) (.str z) H (.bl (!decide (c ∈ z.cps.toList))) := fun H1 _ _ q => ⟨c, z, rfl, rfl, q H1 (Ex.refl H1)⟩
/-- two data compared: what each is, where the heap has grown -/
theorem rv_eqD {d e : PyData} (hd : ∀ H1, Ex H H1 → Dp K H1 x d) (he : ∀ H1, Ex H H1 → Dp K H1 y e) (s1 : SeqAt.shaped d = true) (s2 : SeqAt.shaped e = true) : RV (rEqD K) x y H (.bl (PyData.eqv d e)) := fun H1 e1 _ q => ⟨d, e, hd H1 e1, he H1 e1, s1, s2, q H1 (Ex.refl H1)⟩
theorem rv_neD {d e : PyData} (hd : ∀ H1, Ex H H1 → Dp K H1 x d) (he : ∀ H1, Ex H H1 → Dp K H1 y e) (s1 : SeqAt.shaped d = true) (s2 : SeqAt.shaped e = true) : RV (rNeD K) x y H (.bl (!PyData.eqv d e)) := fun H1 e1 _ q => ⟨d, e, hd H1 e1, he H1 e1, s1, s2, q H1 (Ex.refl H1)⟩
theorem dp_lst {α : Type} {a : Addr} {f : α → V} {g : α → PyData} {xs : List α} (h : SqL K H a (xs.map f)) (hd : ∀ a, Dp K H (f a) (g a)) : Dp K H (.ref a) (.list (xs.map g)) := .lst h (dpAll_map f g hd xs)
/-- s[lo:hi] -/
theorem ev_slS {s : Str} {tp tq : TO} {lo hi : Option Int} (h : Ev te σ H (.str s)) (h1 : EvO tp σ H lo) (h2 : EvO tq σ H hi) (hz : s.length ≤ sizeLine) : Ev (tSl rSlS te tp tq) σ H (.str (cutS s lo hi)) := fun H1 e _ q =>
  h H1 e _ fun H2 e2 => h1 H2 (e.trans e2) _ fun H3 e3 => h2 H3 ((e.trans e2).trans e3) _ fun H4 e4 => ⟨s, rfl, hz, q H4 ((e2.trans e3).trans e4)⟩
/-- s + t -/
theorem rv_addS {a b : Str} (h : a.length + b.length ≤ 100000) : RV (fun x y H Q => ∃ i j : Str, x = .str i ∧ y = .str j ∧ i.length + j.length ≤ sizeLine ∧ Q (.str (i ++ j)) H) (.str a) (.str b) H (.str (a ++ b)) := fun H1 _ _ q => ⟨a, b, rfl, rfl, sz_of h, q H1 (Ex.refl H1)⟩
/-- [a, b, ..][i], the list a new one -/
theorem ev_ixN {xs : List V} {i : Int} (ha : EvL ta σ H xs) (hb : Ev tb σ H (.int i)) (hv : atI xs i = some v) : Ev (tOp (rIxL K) ta tb) σ H v := ev_opL1 ha (fun _ e => hb.mono e) fun _ _ h _ => rv_ixL (.of h) hv
/-- sep.join(new list of texts) -/
theorem ev_joinN {a : Str} {ys : List Str} (h : Ev ta σ H (.str a)) (h2 : EvL te σ H (ys.map V.str)) (hz : (ys.map (·.length)).sum + ys.length * a.length ≤ 16777216) :
    Ev (tM1 (fun x xs H Q => ∃ a p, ∃ ys : List Str, x = .str a ∧ xs = [.ref p] ∧ (SqL K H p (ys.map V.str) ∨ SqT K H p (ys.map V.str)) ∧ (ys.map (·.length)).sum + ys.length * a.length ≤ 16777216 ∧ Q (.str (Txt.join a ys)) H) ta te) σ H (.str (Txt.join a ys)) := fun H1 e _ q =>
  h H1 e _ fun H2 e2 => ⟨⟨a, rfl⟩, h2 H2 (e.trans e2) _ fun p H3 _ e3 h3 => ⟨a, p, ys, rfl, rfl, .inl (.of h3), hz, q H3 (e2.trans e3)⟩⟩
theorem et_yes : EvT tYes σ H true := fun H1 _ _ q => q H1 (Ex.refl H1)
theorem given_all (n : Nat) (g : Nat → V) : given n (fun _ => true) g = (List.range n).map g := by
  unfold given
  rw [List.filter_eq_self.mpr fun _ _ => rfl]
/-- an item at a place that lies within -/
theorem atI_in {xs : List V} {i : Int} (h1 : 0 ≤ i) (h2 : i < xs.length) : ∃ v, v ∈ xs ∧ atI xs i = some v := by
  obtain ⟨j, rfl⟩ := Int.eq_ofNat_of_zero_le h1
  have hj : j < xs.length := by omega
  exact ⟨xs[j], List.getElem_mem hj, atI_nat (List.getElem?_eq_getElem hj)⟩
theorem atN_in {xs : List Nat} {i : Int} (h1 : 0 ≤ i) (h2 : i < xs.length) : ∃ v, v ∈ xs ∧ atI xs i = some v := by
  obtain ⟨j, rfl⟩ := Int.eq_ofNat_of_zero_le h1
  have hj : j < xs.length := by omega
  exact ⟨xs[j], List.getElem_mem hj, atI_nat (List.getElem?_eq_getElem hj)⟩
end
/-! ### short plain texts -/
structure Sh (n : Nat) (s : Str) : Prop where
  len : s.length ≤ n
  asc : ∀ c ∈ s.cps.toList, c < 128
theorem Sh.cut {n : Nat} {s : Str} (h : Sh n s) (lo hi : Option Int) : Sh n (cutS s lo hi) := by
  refine ⟨Nat.le_trans (cutS_length s lo hi) h.len, fun c hc => h.asc c ?_⟩
  unfold cutS at hc
  exact List.mem_of_mem_drop (List.mem_of_mem_take hc)
theorem Sh.one {c : Nat} (h : c < 128) : Sh 1 ⟨#[c]⟩ := ⟨Nat.le_refl 1, fun d hd => by
  have : d = c := by simpa using hd
  omega⟩
theorem Sh.app {n m : Nat} {s t : Str} (h : Sh n s) (k : Sh m t) : Sh (n + m) (s ++ t) := by
  have e : (s ++ t).cps.toList = s.cps.toList ++ t.cps.toList := TL.tl_append s t
  refine ⟨?_, fun c hc => ?_⟩
  · have z := congrArg List.length e
    rw [List.length_append, Array.length_toList, Array.length_toList, Array.length_toList] at z
    have h1 : s.cps.size ≤ n := h.len
    have h2 : t.cps.size ≤ m := k.len
    show (s ++ t).cps.size ≤ n + m
    omega
  · rw [e] at hc
    exact (List.mem_append.mp hc).elim (h.asc c) (k.asc c)
theorem Sh.mono {n m : Nat} {s : Str} (h : Sh n s) (k : n ≤ m) : Sh m s := ⟨Nat.le_trans h.len k, h.asc⟩
/-- single signs, joined by nothing -/
theorem Sh.joined : ∀ ys : List Str, (∀ y ∈ ys, Sh 1 y) → Sh ys.length (Str.join "" ys)
  | [], _ => ⟨Nat.le_refl 0, fun c hc => by cases hc⟩
  | [a], h => h a List.mem_cons_self
  | a :: b :: r, h => by
    have ih := Sh.joined (b :: r) fun y hy => h y (List.mem_cons_of_mem _ hy)
    have e : Sh (1 + 0 + (b :: r).length) (a ++ "" ++ Str.join "" (b :: r)) := ((h a List.mem_cons_self).app ⟨Nat.le_refl 0, fun c hc => by cases hc⟩).app ih
    exact e.mono (by simp only [List.length_cons]; omega)
end HB

/-! sorted(d), sorted(d, reverse=b) of a dict with int keys, any number of them; a text times an int -/
namespace HS
open PySem PySem.Spec PyProof.Rows L2
section
variable {X : Cx} {pins : List (Addr × Obj)} {σ : L2.St} {H : Hp} {s : Shared}
/-- the ints behind a sort, in the order that b asks -/
theorem sorted_keys {a : Addr} {kvs : List (Key × V)} {ks : List Int} {b : Bool} {kw : List (Str × Value)} {Q : VK} (I : Inv X pins σ H s) (hcalm : X.calm = true) (hd : Rd H a (.dK kvs)) (hks : kvs.map (·.1) = ks.map Sum.inl)
    (ha1 : argsOk "sorted" ⟨[.ref a], kw⟩) (ha2 : ∀ a, argsOk "list.sort" ⟨[a], kw⟩)
    (sortit : ∀ (s1 : Shared) (L : Addr) (vs : List Value) (R : PySem.Fin → Shared → Prop), IntsAre vs ks → s1.heap.get? L = some (seqObj "list" vs.toArray 0) → vs.length ≤ sizeLine →
      (∀ (out : List Value) (ns : List Int), IntsAre out ns → ns.Perm ks → OrdB b ns → R (.done (.ret .none)) { s1 with heap := sortedHeap s1.heap L vs out.toArray }) → wpAny (model X.prog X.w) X.A.in1.in1 (Builtin.«list.sort» ⟨[.ref L], kw⟩) R (fun e s' => X.xe e s') s1)
    (q : ∀ (ns : List Int) (p : Addr), ns.Perm ks → OrdB b ns → H p = none → Q (.ref p) (upd H p (.lst (ns.map V.int)))) : wpAny (model X.prog X.w) X.A (call (.builtin "sorted") [.ref a] kw) (EP X pins σ Q) X.xe s := by
  obtain ⟨z, lo, vs, rel, dd⟩ := dk_rd I.hok hd
  obtain ⟨ep, hat⟩ := dd.dictAt
  have keys : vs.map (·.1) = ks.map Sum.inl := rel.keys.symm.trans hks
  have same : vs.length = ks.length := by simpa using congrArg List.length keys
  have small : vs.length ≤ sizeLine := by rw [← rel.length]; exact z
  refine call_function_entry_kw PyProof.Rows.kind_sorted PyProof.Rows.plain_sorted PyProof.Rows.entry_sorted ha1 ?_
  unfold Builtin.«sorted»
  refine wpAny_bind (m := checkCount "sorted" 1 1 _) (wpAny_pure ?_)
  refine wpAny_bind (PySem.W.kdu_collect (A := X.A.in1) (PySem.W.kdl_dict (knd := mixKind X.prog X.w) (kvs := vs) (ep := ep) lo) (I.ok.hd hcalm) hat small fun h2 tk acc keep hacc => ?_)
  have la : acc.toList.length = ks.length := by rw [Array.length_toList, hacc.1, same]
  have ia : IntsAre acc.toList ks := ints_each la fun j v e => by
    obtain ⟨k, x, e1, e2⟩ := hacc.2 j v (by rw [← Array.getElem?_toList]; exact e)
    have e3 : (ks.map (Sum.inl : Int → Key))[j]? = some k := by rw [← keys, List.getElem?_map, e1]; rfl
    rw [List.getElem?_map] at e3
    obtain ⟨y, ey, e5⟩ := Option.map_eq_some_iff.mp e3
    subst e5
    rcases keyIs_shape (show keyIs (Sum.inl y) v = true from e2) with ⟨i, t, ek, ev⟩ | ⟨z, t, ek, ev⟩
    · cases ek
      exact ⟨y, t, ey, ev⟩
    · cases ek
  have I1 : Inv X pins σ H { s with heap := h2, toks := tk } := I.kept keep
  refine wpAny_bind (wpAny_newList ?_ (by rw [la, ← same]; exact small))
  have at_ : (h2.push (seqObj "list" acc.toList.toArray 0)).get? h2.objs.size = some (seqObj "list" acc.toList.toArray 0) := Heap.get?_push_size _ rfl
  show wpAny _ _ _ _ _ { s with heap := h2.push (seqObj "list" acc.toList.toArray 0), toks := tk }
  refine wpAny_bind (wpAny_holding (wpAny_call_entry_kw PyProof.Rows.slot_list_sort ⟨_, at_, rfl⟩ PyProof.Rows.entry_list_sort
    (sortit { s with heap := h2.push (seqObj "list" acc.toList.toArray 0), toks := tk } _ _ _ ia at_ (by rw [la, ← same]; exact small) fun out ns g1 g2 g3 => ⟨_, rfl, ?_⟩) (ha2 _)))
  obtain ⟨e2, he2⟩ := PyProof.Rows.sortedHeap_at (vs := acc.toList) (out := out.toArray) at_
  have fits : (ns.map V.int).length ≤ sizeLine := by
    rw [List.length_map, g2.length_eq, ← same]
    exact small
  refine wpAny_pure ⟨_, rfl, .ref h2.objs.size, upd H h2.objs.size (.lst (ns.map V.int)), I1.laid (t' := tk) (fun b u e => ?_) (Nat.le_refl _) (show ObjOk X.prog X.w _ _ _ (.lst (ns.map V.int)) from ⟨fits, out, e2, vals_of_ints g1, he2⟩), rfl, q ns _ g2 g3 (I1.hok.fresh (Nat.le_refl _))⟩
  have lt : b < h2.objs.size := Heap.lt_size e
  rw [PyProof.Rows.sortedHeap_old (Nat.ne_of_lt lt) (by rw [size_push']; exact Nat.lt_succ_of_lt lt)]
  exact Heap.get?_push_of_some _ e
/-- sorted(d) -/
def rSortD : List V → Hp → VK → Prop := fun vs H Q => ∃ (a : Addr) (kvs : List (Key × V)) (ks : List Int), vs = [.ref a] ∧ Rd H a (.dK kvs) ∧ kvs.map (·.1) = ks.map Sum.inl ∧
  ∀ (ns : List Int) (p : Addr), ns.Perm ks → ns.Pairwise (· ≤ ·) → H p = none → Q (.ref p) (upd H p (.lst (ns.map V.int)))
theorem cr_sortD (hc : X.calm = true) : CallR X (.builtin "sorted") rSortD := by
  intro pins s σ H vs us Q I r h
  obtain ⟨a, kvs, ks, rfl, hd, hk, q⟩ := h
  rw [Vals.ref1 r]
  refine sorted_keys (b := false) (kw := []) I hc hd hk (PyProof.Rows.args_sorted1 _) (fun a => PyProof.Rows.args_list_sort a) (fun s1 L vs R hi hL hz hR => ?_) q
  exact SrtO.list_sort_ord SrtO.swo_int hL hz (fun h2 => SrtO.ints_sortable hi h2) fun out h1 h2 => by
    obtain ⟨k1, k2, k3⟩ := SrtO.ints_out hi h1 h2
    exact hR out _ k1 k2 k3
/-- sorted(d, reverse=b) -/
def rSortDR (b : Bool) : List V → List V → Hp → VK → Prop := fun vs zs H Q => ∃ (a : Addr) (kvs : List (Key × V)) (ks : List Int), vs = [.ref a] ∧ zs = [.bl b] ∧ Rd H a (.dK kvs) ∧ kvs.map (·.1) = ks.map Sum.inl ∧
  ∀ (ns : List Int) (p : Addr), ns.Perm ks → OrdB b ns → H p = none → Q (.ref p) (upd H p (.lst (ns.map V.int)))
theorem cr_sortDR {b : Bool} (hc : X.calm = true) : CallRK X (.builtin "sorted") [Str.ofString "reverse"] (rSortDR b) := by
  intro pins s σ H vs zs us ws Q I r rz h
  obtain ⟨a, kvs, ks, rfl, rfl, hd, hk, q⟩ := h
  obtain rfl := Vals.ref1 r
  obtain ⟨w1, rfl, e1⟩ := vals1 rz
  obtain rfl : w1 = Value.bool b := e1
  refine sorted_keys (b := b) I hc hd hk (PyProof.Rows.args_sorted_rev _ _) (fun _ => PyProof.Rows.args_list_sort_rev _ _) (fun s1 L vs R hi hL hz hR => ?_) q
  exact SrtR.list_sort_ordR SrtO.swo_int hL hz (fun h2 => SrtO.ints_sortable hi h2) fun out h1 h2 => by
    obtain ⟨ns, k1, k2, k3⟩ := SrtR.ints_outR hi h1 h2
    have := hR _ _ k1 k2 k3
    rw [Array.toArray_toList] at this
    exact this
end
end HS
namespace HS
open PySem PySem.Spec PyProof.Rows L2
theorem rep_foldl (c : Nat) : ∀ (n : Nat) (a : Array Nat), (List.replicate n (#[c] : Array Nat)).foldl (· ++ ·) a = a ++ (List.replicate n c).toArray
  | 0, a => by simp
  | n + 1, a => by
    rw [List.replicate_succ, List.foldl_cons, rep_foldl c n (a ++ #[c]), List.replicate_succ]
    apply Array.ext'
    simp
/-- a sign, n times -/
def rRepS : R2 := fun x y H Q => ∃ (c : Nat) (n : Int), x = .str ⟨#[c]⟩ ∧ y = .int n ∧ 1 ≤ n ∧ n ≤ 1000 ∧ Q (.str ⟨(List.replicate n.toNat c).toArray⟩) H
theorem op_repS {X : Cx} : OpR X (binaryOp .Mult) rRepS := by
  intro pins s σ H x y v u Q I rx ry h
  obtain ⟨c, n, rfl, rfl, h1, h2, q⟩ := h
  obtain ⟨t, rfl⟩ := rx
  obtain ⟨t2, rfl⟩ := ry
  have big : ¬ (1 : Int) > (2 ^ 63 - 1) / n := by
    have : (1 : Int) ≤ (2 ^ 63 - 1) / n := by
      rw [Int.le_ediv_iff_mul_le (by omega)]
      omega
    omega
  refine PySem.P.mul_str (by rw [decide_eq_false (by omega), decide_eq_false (by omega)]; rfl) (fun _ _ => big) (fun _ _ => ?_) ?_
  · show decide (1 * n.toNat > sizeLine) = false
    exact decide_eq_false (by have : sizeLine = 16777216 := sizeLine_eq; omega)
  · rw [if_neg (by omega)]
    have e : (List.replicate n.toNat (#[c] : Array Nat)).foldl (· ++ ·) #[] = (List.replicate n.toNat c).toArray := by rw [rep_foldl]; simp
    by_cases hn : n = 1
    · subst hn
      exact ⟨.str ⟨#[c]⟩, H, I, ⟨t, rfl⟩, q⟩
    · rw [if_neg (by simp [hn]; show ¬ (1 : Nat) = 0; decide)]
      show Made.post (Made.str ⟨(List.replicate n.toNat (#[c] : Array Nat)).foldl (· ++ ·) #[]⟩) _ _
      rw [e]
      exact ⟨by show (List.replicate n.toNat c).toArray.size ≤ _; rw [List.size_toArray, List.length_replicate]; exact Nat.le_trans (show n.toNat ≤ 1000 by omega) (by decide), .str _, H, I.tok _, ⟨_, rfl⟩, q⟩
end HS

/-! a book of cues, in plain lists: what a lamp's level is, what the deeds make of it -/
namespace MB
open PySem PySem.Spec PyProof.Rows L2
/-- a cue: its number, fades, whether it is fresh, its words -/
structure Cu where
  n : Int
  up : Int
  down : Int
  fr : Bool
  ws : List (Str × Int)
  deriving DecidableEq
abbrev Bk := List Cu
/-! ### words -/
def wlook (ws : List (Str × Int)) (l : Str) : Option Int := (ws.find? fun p => decide (p.1 = l)).map (·.2)
def wput (ws : List (Str × Int)) (l : Str) (v : Int) : List (Str × Int) :=
  if (ws.any fun p => decide (p.1 = l)) = true then ws.map (fun p => if p.1 = l then (p.1, v) else p) else ws ++ [(l, v)]
def wdrop (ws : List (Str × Int)) (l : Str) : List (Str × Int) := ws.filter fun p => decide (p.1 ≠ l)
theorem wlook_nil (l : Str) : wlook [] l = none := rfl
theorem wlook_pos {p : Str × Int} {r : List (Str × Int)} {l : Str} (e : p.1 = l) : wlook (p :: r) l = some p.2 := by simp [wlook, List.find?_cons, e]
theorem wlook_neg {p : Str × Int} {r : List (Str × Int)} {l : Str} (e : ¬ p.1 = l) : wlook (p :: r) l = wlook r l := by simp [wlook, List.find?_cons, e]
/-! ### levels -/
/-- nearest cue first -/
def lvlD : List Cu → Str → Int
  | [], _ => 0
  | c :: r, l => match wlook c.ws l with
    | some v => v
    | none => if c.fr = true then 0 else lvlD r l
def desc (B : Bk) : Bk := B.mergeSort fun a b => decide (b.n ≤ a.n)
def lvl (B : Bk) (n : Int) (l : Str) : Int := lvlD ((desc B).filter fun c => decide (c.n ≤ n)) l
theorem desc_perm (B : Bk) : (desc B).Perm B := List.mergeSort_perm B _
theorem desc_sorted (B : Bk) : (desc B).Pairwise fun a b => b.n ≤ a.n := by
  have h := List.pairwise_mergeSort (le := fun a b : Cu => decide (b.n ≤ a.n)) (fun a b c h1 h2 => by
    have h1 := of_decide_eq_true h1
    have h2 := of_decide_eq_true h2
    exact decide_eq_true (by omega)) (fun a b => by
    by_cases h : b.n ≤ a.n
    · rw [decide_eq_true h]; rfl
    · rw [decide_eq_true (p := a.n ≤ b.n) (by omega), Bool.or_true]) B
  exact h.imp fun h => of_decide_eq_true h
/-- the numbers, falling: the only such row -/
theorem desc_nums {B : Bk} {ns : List Int} (h1 : ns.Perm (B.map (·.n))) (h2 : ns.Pairwise (· ≥ ·)) : ns = (desc B).map (·.n) := by
  have p : ns.Perm ((desc B).map (·.n)) := h1.trans ((desc_perm B).map _).symm
  have s : ((desc B).map (·.n)).Pairwise (· ≥ ·) := List.pairwise_map.mpr (desc_sorted B)
  exact p.eq_of_pairwise (fun x y _ _ a b => Int.le_antisymm b a) h2 s
def asc (B : Bk) : Bk := B.mergeSort fun a b => decide (a.n ≤ b.n)
theorem asc_perm (B : Bk) : (asc B).Perm B := List.mergeSort_perm B _
theorem asc_sorted (B : Bk) : (asc B).Pairwise fun a b => a.n ≤ b.n := by
  have h := List.pairwise_mergeSort (le := fun a b : Cu => decide (a.n ≤ b.n)) (fun a b c h1 h2 => by
    have h1 := of_decide_eq_true h1
    have h2 := of_decide_eq_true h2
    exact decide_eq_true (by omega)) (fun a b => by
    by_cases h : a.n ≤ b.n
    · rw [decide_eq_true h]; rfl
    · rw [decide_eq_true (p := b.n ≤ a.n) (by omega), Bool.or_true]) B
  exact h.imp fun h => of_decide_eq_true h
theorem asc_nums {B : Bk} {ns : List Int} (h1 : ns.Perm (B.map (·.n))) (h2 : ns.Pairwise (· ≤ ·)) : ns = (asc B).map (·.n) := by
  have p : ns.Perm ((asc B).map (·.n)) := h1.trans ((asc_perm B).map _).symm
  have s : ((asc B).map (·.n)).Pairwise (· ≤ ·) := List.pairwise_map.mpr (asc_sorted B)
  exact p.eq_of_pairwise (fun x y _ _ a b => Int.le_antisymm a b) h2 s
/-- with no number twice the rows rise strictly, and the falling one is the rising one turned -/
theorem asc_strict {B : Bk} (nd : (B.map (·.n)).Nodup) : (asc B).Pairwise fun a b => a.n < b.n := by
  have h1 := asc_sorted B
  have h2 : ((asc B).map (·.n)).Nodup := (((asc_perm B).map _).nodup_iff).mpr nd
  rw [List.Nodup, List.pairwise_map] at h2
  exact (h1.and h2).imp fun h => by omega
theorem desc_asc {B : Bk} (nd : (B.map (·.n)).Nodup) : desc B = (asc B).reverse := by
  have p : (desc B).Perm (asc B).reverse := (desc_perm B).trans ((asc_perm B).symm.trans (List.reverse_perm _).symm)
  refine p.eq_of_pairwise (le := fun a b : Cu => b.n ≤ a.n) (fun x y hx hy a b => ?_) (desc_sorted B) (List.pairwise_reverse.mpr (asc_sorted B))
  have e : x.n = y.n := by omega
  have hx := (desc_perm B).mem_iff.mp hx
  have hy := (asc_perm B).mem_iff.mp (List.mem_reverse.mp hy)
  obtain ⟨i, hi, rfl⟩ := List.getElem_of_mem hx
  obtain ⟨j, hj, rfl⟩ := List.getElem_of_mem hy
  have hij : i = j := by
    have hi2 : i < (B.map fun c : Cu => c.n).length := by rw [List.length_map]; exact hi
    have hj2 : j < (B.map fun c : Cu => c.n).length := by rw [List.length_map]; exact hj
    have e2 : (B.map fun c : Cu => c.n)[i] = (B.map fun c : Cu => c.n)[j] := by rw [List.getElem_map, List.getElem_map]; exact e
    exact (List.getElem_inj nd).mp e2
  subst hij
  rfl
/-- a cue by its number -/
def cueAt (B : Bk) (n : Int) : Option Cu := B.find? fun c => decide (c.n = n)
theorem cueAt_mem {B : Bk} {n : Int} {c : Cu} (h : cueAt B n = some c) : c ∈ B ∧ c.n = n := ⟨List.mem_of_find?_eq_some h, of_decide_eq_true (List.find?_some (p := fun c : Cu => decide (c.n = n)) h)⟩
theorem cueAt_of {B : Bk} (nd : (B.map (·.n)).Nodup) {c : Cu} (h : c ∈ B) : cueAt B c.n = some c := by
  induction B with
  | nil => cases h
  | cons d r ih =>
    rw [List.map_cons, List.nodup_cons] at nd
    unfold cueAt
    rw [List.find?_cons]
    rcases List.mem_cons.mp h with rfl | h
    · rw [decide_eq_true rfl]
    · have hne : ¬ d.n = c.n := fun e => nd.1 (by rw [e]; exact List.mem_map.mpr ⟨c, h, rfl⟩)
      rw [decide_eq_false hne]
      exact ih nd.2 h
end MB
namespace MB
open PySem PySem.Spec PyProof.Rows L2
/-! ### texts in their order -/
def tlt (a b : Str) : Prop := a.cps.toList < b.cps.toList
instance (a b : Str) : Decidable (tlt a b) := by unfold tlt; exact inferInstance
def leS (a b : Str) : Bool := !decide (tlt b a)
theorem tlt_irrefl (a : Str) : ¬ tlt a a := List.lt_irrefl _
theorem tlt_trans {a b c : Str} (h : tlt a b) (k : tlt b c) : tlt a c := List.lt_trans h k
theorem tlt_tri (a b : Str) : tlt a b ∨ a = b ∨ tlt b a := by
  by_cases h : tlt a b
  · exact .inl h
  · by_cases k : tlt b a
    · exact .inr (.inr k)
    · exact .inr (.inl (PyProof.Rows.ext_toList (List.le_antisymm (List.not_lt.mp k) (List.not_lt.mp h))))
theorem leS_iff (a b : Str) : leS a b = true ↔ ¬ tlt b a := by
  unfold leS
  rw [Bool.not_eq_true', decide_eq_false_iff_not]
theorem leS_trans {a b c : Str} (h : leS a b = true) (k : leS b c = true) : leS a c = true := by
  rw [leS_iff] at h k ⊢
  intro z
  rcases tlt_tri a b with h2 | rfl | h2
  · exact k (tlt_trans z h2)
  · exact k z
  · exact h h2
theorem leS_total (a b : Str) : (leS a b || leS b a) = true := by
  rw [Bool.or_eq_true, leS_iff, leS_iff]
  rcases tlt_tri a b with h | rfl | h
  · exact .inl fun z => tlt_irrefl a (tlt_trans h z)
  · exact .inl (tlt_irrefl a)
  · exact .inr fun z => tlt_irrefl a (tlt_trans z h)
theorem leS_anti {a b : Str} (h : leS a b = true) (k : leS b a = true) : a = b := by
  rw [leS_iff] at h k
  rcases tlt_tri a b with z | z | z
  · exact absurd z k
  · exact z
  · exact absurd z h
def sortS (ls : List Str) : List Str := ls.mergeSort leS
theorem sortS_perm (ls : List Str) : (sortS ls).Perm ls := List.mergeSort_perm ls _
theorem sortS_sorted (ls : List Str) : (sortS ls).Pairwise fun a b => leS a b = true := List.pairwise_mergeSort (le := leS) (fun _ _ _ => leS_trans) leS_total ls
theorem rising_pw : ∀ (p : Str) (l : List Str), risingS p l = true → (p :: l).Pairwise fun a b => leS a b = true
  | p, [], _ => List.pairwise_singleton _ _
  | p, x :: r, h => by
    have h : (!ltCps x.cps.toList p.cps.toList && risingS x r) = true := h
    rw [Bool.and_eq_true, ltCps_eq] at h
    have ih := rising_pw x r h.2
    have hx : leS p x = true := h.1
    refine List.pairwise_cons.mpr ⟨fun y hy => ?_, ih⟩
    rcases List.mem_cons.mp hy with rfl | hy
    · exact hx
    · exact leS_trans hx ((List.pairwise_cons.mp ih).1 y hy)
theorem sorted_pw : ∀ {l : List Str}, sortedS l = true → l.Pairwise fun a b => leS a b = true
  | [], _ => .nil
  | x :: r, h => rising_pw x r h
/-- what a sort of texts gives -/
theorem sort_eq {ys ls : List Str} (h1 : ys.Perm ls) (h2 : sortedS ys = true) : ys = sortS ls :=
  (h1.trans (sortS_perm ls).symm).eq_of_pairwise (fun _ _ _ _ a b => leS_anti a b) (sorted_pw h2) (sortS_sorted ls)
/-- two rows with the same members, none twice, in order: the same -/
theorem same_sorted {xs ys : List Str} (nx : xs.Nodup) (ny : ys.Nodup) (h : ∀ a, a ∈ xs ↔ a ∈ ys) (sx : xs.Pairwise fun a b => leS a b = true) (sy : ys.Pairwise fun a b => leS a b = true) : xs = ys :=
  ((List.perm_ext_iff_of_nodup nx ny).mpr h).eq_of_pairwise (fun _ _ _ _ a b => leS_anti a b) sx sy
/-! ### looks -/
/-- the levels of those lamps that are not dark, by the alphabet (a name twice counts once) -/
def lookOf (B : Bk) (n : Int) (ls : List Str) : List (Str × Int) := (sortS ls).foldl (fun acc l => if 0 < lvl B n l then wput acc l (lvl B n l) else acc) []
/-- the next cue's number -/
def behindOf (B : Bk) (n : Int) : Option Int := (((asc B).map (·.n)).filter fun k => decide (n < k)).head?
/-- a lamp's word at a cue -/
def setW (B : Bk) (n : Int) (l : Str) (v : Int) : Bk := B.map fun c => if c.n = n then { c with ws := wput c.ws l v } else c
/-- the next cue tells the level that a lamp had, where it would have another one -/
def holdB (B : Bk) (o : Option Int) (l : Str) (due : Int) : Bk := match o with
  | none => B
  | some n => if lvl B n l = due then B else setW B n l due
end MB

/-! a book of cues as it lies in the heap of the law: a dict from numbers to lists of two fades, a truth and a dict of words -/
namespace HW
open PySem PySem.Spec PyProof.Rows L2 Evl HB HS MB
structure CRow where
  c : Cu
  la : Addr
  wa : Addr
def wkv (ws : List (Str × Int)) : List (Key × V) := ws.map fun p => (.inr p.1, .int p.2)
def CRow.items (r : CRow) : List V := [.int r.c.up, .int r.c.down, .bl r.c.fr, .ref r.wa]
def mkv (R : List CRow) : List (Key × V) := R.map fun r => (.inl r.c.n, .ref r.la)
abbrev bk (R : List CRow) : Bk := R.map (·.c)
structure MAt (H : Hp) (m : Addr) (R : List CRow) : Prop where
  dct : Rd H m (.dK (mkv R))
  row : ∀ r ∈ R, H r.la = some (.lst r.items) ∧ H r.wa = some (.dK (wkv r.c.ws))
  nd : ((bk R).map (·.n)).Nodup
  ndl : (R.map (·.la)).Nodup
  ndw : (R.map (·.wa)).Nodup
  mw : ∀ r ∈ R, r.wa ≠ m
  wn : ∀ r ∈ R, (r.c.ws.map (·.1)).Nodup
theorem MAt.ex {H H' : Hp} {m : Addr} {R : List CRow} (h : MAt H m R) (e : Ex H H') : MAt H' m R :=
  ⟨ex_rd e h.dct, fun r hr => ⟨e _ _ (h.row r hr).1, e _ _ (h.row r hr).2⟩, h.nd, h.ndl, h.ndw, h.mw, h.wn⟩
theorem val_wkv (l : Str) : ∀ ws : List (Str × Int), valV (wkv ws) (.inr l) = (wlook ws l).map V.int
  | [] => rfl
  | p :: r => by
    have ih := val_wkv l r
    by_cases e : p.1 = l
    · rw [wlook_pos e]
      exact valV_pos (p := ((.inr p.1 : Key), V.int p.2)) (r := wkv r) (congrArg Sum.inr e)
    · rw [wlook_neg e]
      exact (valV_neg (p := ((.inr p.1 : Key), V.int p.2)) (r := wkv r) (fun z => e (Sum.inr.inj z))).trans ih
theorem val_mkv (n : Int) : ∀ R : List CRow, valV (mkv R) (.inl n) = (R.find? fun r => decide (r.c.n = n)).map fun r => V.ref r.la
  | [] => rfl
  | p :: r => by
    have ih := val_mkv n r
    rw [List.find?_cons]
    by_cases e : p.c.n = n
    · rw [decide_eq_true e]
      exact valV_pos (p := ((.inl p.c.n : Key), V.ref p.la)) (r := mkv r) (congrArg Sum.inl e)
    · rw [decide_eq_false e]
      exact (valV_neg (p := ((.inl p.c.n : Key), V.ref p.la)) (r := mkv r) (fun z => e (Sum.inl.inj z))).trans ih
theorem find_bk (n : Int) : ∀ R : List CRow, cueAt (bk R) n = (R.find? fun r => decide (r.c.n = n)).map (·.c)
  | [] => rfl
  | p :: r => by
    have ih := find_bk n r
    unfold cueAt at ih ⊢
    show List.find? (fun c => decide (c.n = n)) (p.c :: bk r) = _
    rw [List.find?_cons, List.find?_cons]
    cases decide (p.c.n = n) with
    | true => rfl
    | false => exact ih
/-- the row of a number that is there -/
theorem row_of {R : List CRow} {n : Int} {c : Cu} (h : cueAt (bk R) n = some c) : ∃ r ∈ R, r.c = c ∧ c.n = n ∧ valV (mkv R) (.inl n) = some (.ref r.la) := by
  rw [find_bk] at h
  obtain ⟨r, hr, rfl⟩ := Option.map_eq_some_iff.mp h
  exact ⟨r, List.mem_of_find?_eq_some hr, rfl, of_decide_eq_true (List.find?_some (p := fun r : CRow => decide (r.c.n = n)) hr), by rw [val_mkv, hr]; rfl⟩
theorem keys_mkv (R : List CRow) : (mkv R).map (·.1) = ((bk R).map (·.n)).map Sum.inl := by
  unfold mkv bk
  rw [List.map_map, List.map_map, List.map_map]
  rfl
theorem keys_wkv (ws : List (Str × Int)) : (wkv ws).map (·.1) = (ws.map (·.1)).map Sum.inr := by
  unfold wkv
  rw [List.map_map, List.map_map]
  rfl
section
variable {K : PySem.W.Frag} {σ : L2.St} {H H' : Hp} {td ty te : TE} {v x : V}
/-- d[k] -/
theorem ev_dget {a : Addr} {kvs : List (Key × V)} {k : Key} (hd : Ev td σ H (.ref a)) (hk : Ev ty σ H (kV k)) (h : Rd H a (.dK kvs)) (hv : valV kvs k = some v) : Ev (tDGet td ty) σ H v := fun H1 e _ q =>
  hd H1 e _ fun H2 e2 => hk H2 (e.trans e2) _ fun H3 e3 => ⟨a, v, rfl, .inl ⟨kvs, k, ex_rd ((e.trans e2).trans e3) h, rfl, hv.symm⟩, q H3 (e2.trans e3)⟩
/-- k in d -/
theorem ev_din {a : Addr} {kvs : List (Key × V)} {k : Key} (hk : Ev ty σ H (kV k)) (hd : Ev td σ H (.ref a)) (h : Rd H a (.dK kvs)) : Ev (tDIn ty td) σ H (.bl (valV kvs k).isSome) := fun H1 e _ q =>
  hk H1 e _ fun H2 e2 => hd H2 (e.trans e2) _ fun H3 e3 => ⟨a, _, rfl, .inl ⟨kvs, k, ex_rd ((e.trans e2).trans e3) h, rfl, rfl⟩, q H3 (e2.trans e3)⟩
theorem ev_dnotin {a : Addr} {kvs : List (Key × V)} {k : Key} (hk : Ev ty σ H (kV k)) (hd : Ev td σ H (.ref a)) (h : Rd H a (.dK kvs)) : Ev (tDNotIn ty td) σ H (.bl (!(valV kvs k).isSome)) := fun H1 e _ q =>
  hk H1 e _ fun H2 e2 => hd H2 (e.trans e2) _ fun H3 e3 => ⟨a, _, rfl, .inl ⟨kvs, k, ex_rd ((e.trans e2).trans e3) h, rfl, rfl⟩, q H3 (e2.trans e3)⟩
/-- sorted(d, reverse=True), sorted(d), of a model -/
theorem el_sortDR {m : Addr} {R : List CRow} {tk : TA} (hd : Ev td σ H (.ref m)) (h : MAt H m R) (hk : EvA tk σ H [.bl true]) : EvL (tCKw (rSortDR true) (tCons td tNil) tk) σ H ((desc (bk R)).map fun c => V.int c.n) := fun H1 e Q q =>
  hd H1 e _ fun H2 e2 => hk H2 (e.trans e2) _ fun H3 e3 => ⟨m, mkv R, (bk R).map (·.n), rfl, rfl, (h.ex ((e.trans e2).trans e3)).dct, keys_mkv R, fun ns p hp hs np => by
    have eq := desc_nums hp hs
    refine q p _ (fresh_back (e2.trans e3) np) ((e2.trans e3).trans (Ex.new np)) ?_
    rw [upd_same, eq, List.map_map]
    rfl⟩
theorem el_sortD {m : Addr} {R : List CRow} (hd : Ev td σ H (.ref m)) (h : MAt H m R) : EvL (tCB rSortD (tCons td tNil)) σ H ((asc (bk R)).map fun c => V.int c.n) := fun H1 e Q q =>
  hd H1 e _ fun H2 e2 => ⟨m, mkv R, (bk R).map (·.n), rfl, (h.ex (e.trans e2)).dct, keys_mkv R, fun ns p hp hs np => by
    have eq := asc_nums hp hs
    refine q p _ (fresh_back e2 np) (e2.trans (Ex.new np)) ?_
    rw [upd_same, eq, List.map_map]
    rfl⟩
/-- model[n], model[n][3], by the row -/
theorem ev_row {m : Addr} {R : List CRow} {r : CRow} (h : MAt H m R) (hr : r ∈ R) (hd : Ev td σ H (.ref m)) (hk : Ev ty σ H (.int r.c.n)) : Ev (tDGet td ty) σ H (.ref r.la) := by
  refine ev_dget (k := .inl r.c.n) hd hk h.dct ?_
  obtain ⟨r2, h2, e2, _, e3⟩ := row_of (cueAt_of h.nd (List.mem_map.mpr ⟨r, hr, rfl⟩))
  rw [e3]
  obtain ⟨i, hi, rfl⟩ := List.getElem_of_mem hr
  obtain ⟨j, hj, rfl⟩ := List.getElem_of_mem h2
  have hi2 : i < ((bk R).map fun c : Cu => c.n).length := by rw [List.length_map, List.length_map]; exact hi
  have hj2 : j < ((bk R).map fun c : Cu => c.n).length := by rw [List.length_map, List.length_map]; exact hj
  have e4 : ((bk R).map fun c : Cu => c.n)[j] = ((bk R).map fun c : Cu => c.n)[i] := by
    rw [List.getElem_map, List.getElem_map, List.getElem_map, List.getElem_map, e2]
  have e5 := (List.getElem_inj h.nd).mp e4
  subst e5
  rfl
theorem ev_ixK {a : Addr} {xs : List V} {i : Int} (ha : Ev td σ H (.ref a)) (hb : Ev ty σ H (.int i)) (h : SqL K H a xs) (hv : atI xs i = some v) : Ev (tOp (rIxL K) td ty) σ H v := ev_op ha hb (rv_ixL h hv)
theorem ev_words {m : Addr} {R : List CRow} {r : CRow} {tc : TE} (h : MAt H m R) (hr : r ∈ R) (hd : Ev td σ H (.ref m)) (hk : Ev ty σ H (.int r.c.n)) (hc : Ev tc σ H (.int 3)) : Ev (tOp (rIxL K) (tDGet td ty) tc) σ H (.ref r.wa) :=
  ev_ixK (ev_row h hr hd hk) hc (.of (h.row r hr).1) rfl
theorem ev_fresh {m : Addr} {R : List CRow} {r : CRow} {tc : TE} (h : MAt H m R) (hr : r ∈ R) (hd : Ev td σ H (.ref m)) (hk : Ev ty σ H (.int r.c.n)) (hc : Ev tc σ H (.int 2)) : Ev (tOp (rIxL K) (tDGet td ty) tc) σ H (.bl r.c.fr) :=
  ev_ixK (ev_row h hr hd hk) hc (.of (h.row r hr).1) rfl
/-- a new dict comes back -/
def RetD (kvs : List (Key × V)) (H : Hp) (Q : VK) : Prop := ∀ p H2, H p = none → Ex H H2 → H2 p = some (.dK kvs) → Q (.ref p) H2
def spD (R : Hp → List V → List (Key × V) → Prop) : Sp := fun vs H Q _ => ∃ kvs, R H vs kvs ∧ RetD kvs H Q
def EvD (te : TE) (σ : L2.St) (H : Hp) (kvs : List (Key × V)) : Prop := ∀ H1, Ex H H1 → ∀ Q : VK, (∀ p H2, H1 p = none → Ex H1 H2 → H2 p = some (.dK kvs) → Q (.ref p) H2) → te σ H1 Q
theorem ed_new : EvD tDNewK σ H [] := fun H1 _ _ q => fun p np => q p _ np (Ex.new np) upd_same
theorem ed_call {sp : Hp → List V → List (Key × V) → Prop} {E : XK} {ta : TA} {vs : List V} {kvs : List (Key × V)} (h : EvA ta σ H vs) (hR : ∀ H1, Ex H H1 → sp H1 (vs ++ []) kvs) : EvD (tCall (spD sp) [] E ta) σ H kvs := fun H1 e Q q =>
  h H1 e _ fun H2 e2 => ⟨kvs, hR H2 (e.trans e2), fun p H3 np e3 h3 => q p H3 (fresh_back e2 np) (e2.trans e3) h3⟩
theorem q_asgD {i : Nat} {kvs : List (Key × V)} {tz : TS} {D : Ends} (h : EvD te σ H kvs) (k : ∀ p H1, H p = none → Ex H H1 → H1 p = some (.dK kvs) → tz D (σ.set i (some (.ref p))) H1) : tSeq (tAsg te (gName i)) tz D σ H :=
  h H (Ex.refl H) _ fun p H1 np e h1 => k p H1 np e h1
/-- d[k] = v -/
theorem s_dput {a : Addr} {kvs : List (Key × V)} {k : Key} {tv : TE} {D : Ends} (hv : Ev tv σ H v) (hd : Ev td σ H (.ref a)) (hk : Ev ty σ H (kV k)) (h : H a = some (.dK kvs)) (hz : kvs.length < 100000) (q : ∀ H1, Ex H H1 → D.nx σ (upd H1 a (.dK (putK kvs k v)))) : sDPut td ty tv D σ H :=
  hv H (Ex.refl H) _ fun H1 e1 => hd H1 e1 _ fun H2 e2 => hk H2 (e1.trans e2) _ fun H3 e3 => ⟨a, _, rfl, DPut.k (k := k) (((e1.trans e2).trans e3) _ _ h) (sz_lt hz), q H3 ((e1.trans e2).trans e3)⟩
/-- sorted(texts) -/
theorem el_sortS {a : Addr} {ls : List Str} (hd : Ev td σ H (.ref a)) (h : SqL K H a (ls.map V.str)) (h64 : ls.length < 64) : EvL (tCB (rSortedS K) (tCons td tNil)) σ H ((sortS ls).map V.str) := fun H1 e Q q =>
  hd H1 e _ fun H2 e2 => ⟨a, ls, rfl, ex_l (e.trans e2) h, h64, fun ys p hp hs np => by
    have eq := sort_eq hp hs
    refine q p _ (fresh_back e2 np) (e2.trans (Ex.new np)) ?_
    rw [upd_same, eq]⟩
end
theorem given_of {α : Type} (d : α) (xs : List α) (p : α → Bool) (g : α → V) : given xs.length (fun i => p (xs.getD i d)) (fun i => g (xs.getD i d)) = (xs.filter p).map g := by
  have e : xs = (List.range xs.length).map fun i => xs.getD i d := by
    refine List.ext_getElem? fun i => ?_
    rw [List.getElem?_map]
    by_cases h : i < xs.length
    · rw [List.getElem?_range h, List.getElem?_eq_getElem h]
      show some xs[i] = some (xs.getD i d)
      rw [List.getD_eq_getElem?_getD, List.getElem?_eq_getElem h]
      rfl
    · rw [List.getElem?_eq_none (by omega), List.getElem?_eq_none (by rw [List.length_range]; omega)]
      rfl
  unfold given
  conv => rhs; rw [e, List.filter_map, List.map_map]
  rfl
theorem getD_of {α : Type} {xs : List α} {i : Nat} {a : α} (d : α) (h : xs[i]? = some a) : xs.getD i d = a := by
  rw [List.getD_eq_getElem?_getD, h]
  rfl
theorem put_wkv (l : Str) (v : Int) (ws : List (Str × Int)) : putK (wkv ws) (.inr l) (.int v) = wkv (wput ws l v) := by
  have e : ((wkv ws).any fun kv => decide (kv.1 = (.inr l : Key))) = (ws.any fun p => decide (p.1 = l)) := by
    unfold wkv
    rw [List.any_map]
    congr 1
    funext p
    show decide ((Sum.inr p.1 : Key) = Sum.inr l) = decide (p.1 = l)
    exact decide_eq_decide.mpr ⟨Sum.inr.inj, congrArg _⟩
  unfold putK wput
  rw [e]
  by_cases h : (ws.any fun p => decide (p.1 = l)) = true
  · rw [if_pos h, if_pos h]
    unfold wkv
    rw [List.map_map, List.map_map]
    refine List.map_congr_left fun p _ => ?_
    show (if (Sum.inr p.1 : Key) = Sum.inr l then ((Sum.inr p.1 : Key), V.int v) else (Sum.inr p.1, V.int p.2)) = _
    by_cases h2 : p.1 = l
    · rw [if_pos (congrArg _ h2)]
      show _ = (fun p : Str × Int => ((Sum.inr p.1 : Key), V.int p.2)) (if p.1 = l then (p.1, v) else p)
      rw [if_pos h2]
    · rw [if_neg (fun z => h2 (Sum.inr.inj z))]
      show _ = (fun p : Str × Int => ((Sum.inr p.1 : Key), V.int p.2)) (if p.1 = l then (p.1, v) else p)
      rw [if_neg h2]
  · rw [if_neg h, if_neg h]
    unfold wkv
    rw [List.map_append]
    rfl
theorem wkv_len (ws : List (Str × Int)) : (wkv ws).length = ws.length := List.length_map _
theorem wput_len (ws : List (Str × Int)) (l : Str) (v : Int) : (wput ws l v).length ≤ ws.length + 1 := by
  unfold wput
  split
  · rw [List.length_map]; omega
  · rw [List.length_append]; exact Nat.le_refl _
/-! ### what a deed may touch -/
/-- from H, where a thing has its places fp, to H', where it has fp2: all else stays -/
structure Mv (fp : Addr → Prop) (H : Hp) (fp2 : Addr → Prop) (H' : Hp) : Prop where
  keep : ∀ b u, H b = some u → ¬ fp b → H' b = some u
  grow : ∀ b, fp2 b → fp b ∨ H b = none
theorem Mv.refl (fp : Addr → Prop) (H : Hp) : Mv fp H fp H := ⟨fun _ _ h _ => h, fun _ h => .inl h⟩
theorem Mv.of_ex {fp : Addr → Prop} {H H' : Hp} (e : Ex H H') : Mv fp H fp H' := ⟨fun _ _ h _ => e _ _ h, fun _ h => .inl h⟩
theorem Mv.trans {fp fp1 fp2 : Addr → Prop} {H H1 H2 : Hp} (a : Mv fp H fp1 H1) (b : Mv fp1 H1 fp2 H2) : Mv fp H fp2 H2 := by
  have out : ∀ c u, H c = some u → ¬ fp c → H1 c = some u ∧ ¬ fp1 c := fun c u h n => ⟨a.keep c u h n, fun z => (a.grow c z).elim n fun q => by rw [q] at h; cases h⟩
  refine ⟨fun c u h n => ?_, fun c h => ?_⟩
  · obtain ⟨h1, h2⟩ := out c u h n
    exact b.keep c u h1 h2
  · by_cases k : fp c
    · exact .inl k
    · refine .inr ?_
      cases q : H c with
      | none => rfl
      | some u =>
        obtain ⟨h1, h2⟩ := out c u q k
        exact (b.grow c h).elim (fun z => absurd z h2) fun z => by rw [z] at h1; cases h1
theorem rd_known {H : Hp} {a : Addr} {u : HO} (h : Rd H a u) : ∃ o, H a = some o := h.elim (fun h => ⟨_, h⟩) fun ⟨_, h⟩ => ⟨_, h⟩
theorem rd_keep {H H' : Hp} {a : Addr} {u : HO} {C : Prop} (k : ∀ o, C → H a = some o → H' a = some o) (c : C) (h : Rd H a u) : Rd H' a u := h.elim (fun h => .inl (k _ c h)) fun ⟨o, h⟩ => .inr ⟨o, k _ c h⟩
theorem rd_upd {H : Hp} {a b : Addr} {u w : HO} (n : a ≠ b) (h : Rd H a u) : Rd (upd H b w) a u := h.elim (fun h => .inl (by rw [upd_ne n]; exact h)) fun ⟨o, h⟩ => .inr ⟨o, by rw [upd_ne n]; exact h⟩
/-- the places of a model -/
def MF (m : Addr) (R : List CRow) (b : Addr) : Prop := b = m ∨ ∃ r ∈ R, b = r.la ∨ b = r.wa
theorem MAt.known {H : Hp} {m : Addr} {R : List CRow} (h : MAt H m R) {b : Addr} (k : MF m R b) : ∃ u, H b = some u := by
  rcases k with rfl | ⟨r, hr, rfl | rfl⟩
  · exact rd_known h.dct
  · exact ⟨_, (h.row r hr).1⟩
  · exact ⟨_, (h.row r hr).2⟩
/-- a model stands where its places stand -/
theorem MAt.frame {H H' : Hp} {m : Addr} {R : List CRow} (h : MAt H m R) (k : ∀ b u, MF m R b → H b = some u → H' b = some u) : MAt H' m R :=
  ⟨rd_keep (k _) (.inl rfl) h.dct, fun r hr => ⟨k _ _ (.inr ⟨r, hr, .inl rfl⟩) (h.row r hr).1, k _ _ (.inr ⟨r, hr, .inr rfl⟩) (h.row r hr).2⟩, h.nd, h.ndl, h.ndw, h.mw, h.wn⟩
theorem wput_keys (ws : List (Str × Int)) (l : Str) (v : Int) (nd : (ws.map (·.1)).Nodup) : ((wput ws l v).map (·.1)).Nodup := by
  unfold wput
  split
  · have e : (ws.map fun p => if p.1 = l then (p.1, v) else p).map (·.1) = ws.map (·.1) := by
      rw [List.map_map]
      refine List.map_congr_left fun p _ => ?_
      show (if p.1 = l then (p.1, v) else p).1 = p.1
      split <;> rfl
    rw [e]
    exact nd
  · rename_i h
    rw [List.map_append, List.map_singleton]
    refine List.nodup_append.mpr ⟨nd, List.nodup_cons.mpr ⟨List.not_mem_nil, List.nodup_nil⟩, fun a ha b hb => ?_⟩
    rw [List.mem_singleton.mp hb]
    rintro rfl
    obtain ⟨p, hp, e⟩ := List.mem_map.mp ha
    exact h (List.any_eq_true.mpr ⟨p, hp, decide_eq_true e⟩)
def CRow.setw (r : CRow) (l : Str) (v : Int) : CRow := { r with c := { r.c with ws := wput r.c.ws l v } }
def setR (R : List CRow) (n : Int) (l : Str) (v : Int) : List CRow := R.map fun r => if r.c.n = n then r.setw l v else r
theorem bk_setR (R : List CRow) (n : Int) (l : Str) (v : Int) : bk (setR R n l v) = setW (bk R) n l v := by
  unfold bk setR setW
  rw [List.map_map, List.map_map]
  refine List.map_congr_left fun r _ => ?_
  show (if r.c.n = n then r.setw l v else r).c = if r.c.n = n then _ else r.c
  split <;> rfl
theorem setR_map {α : Type} (g : CRow → α) (hg : ∀ r l v, g (CRow.setw r l v) = g r) (R : List CRow) (n : Int) (l : Str) (v : Int) : (setR R n l v).map g = R.map g := by
  unfold setR
  rw [List.map_map]
  refine List.map_congr_left fun r _ => ?_
  show g (if r.c.n = n then r.setw l v else r) = g r
  split
  · exact hg r l v
  · rfl
theorem nodup_at {α β : Type} {g : α → β} {xs : List α} (nd : (xs.map g).Nodup) {a b : α} (ha : a ∈ xs) (hb : b ∈ xs) (e : g a = g b) : a = b := by
  obtain ⟨i, hi, rfl⟩ := List.getElem_of_mem ha
  obtain ⟨j, hj, rfl⟩ := List.getElem_of_mem hb
  have hi2 : i < (xs.map g).length := by rw [List.length_map]; exact hi
  have hj2 : j < (xs.map g).length := by rw [List.length_map]; exact hj
  have e2 : (xs.map g)[i] = (xs.map g)[j] := by rw [List.getElem_map, List.getElem_map]; exact e
  have e3 := (List.getElem_inj nd).mp e2
  subst e3
  rfl
theorem nd_n {R : List CRow} (h : ((bk R).map (·.n)).Nodup) : (R.map fun r => r.c.n).Nodup := by
  unfold bk at h
  rw [List.map_map] at h
  exact h
/-- a word told at a row -/
theorem MAt.setw {H : Hp} {m : Addr} {R : List CRow} {r : CRow} (h : MAt H m R) (hr : r ∈ R) (l : Str) (v : Int) : MAt (upd H r.wa (.dK (wkv (wput r.c.ws l v)))) m (setR R r.c.n l v) := by
  have same : ∀ x ∈ R, x.c.n = r.c.n → x = r := fun x hx e => nodup_at (nd_n h.nd) hx hr e
  have sameW : ∀ x ∈ R, x.wa = r.wa → x = r := fun x hx e => nodup_at h.ndw hx hr e
  refine ⟨?_, fun x hx => ?_, ?_, ?_, ?_, fun x hx => ?_, fun x hx => ?_⟩
  · refine rd_upd (Ne.symm (h.mw r hr)) ?_
    have e : mkv (setR R r.c.n l v) = mkv R := setR_map (fun r => ((.inl r.c.n : Key), V.ref r.la)) (fun _ _ _ => rfl) R _ l v
    rw [e]
    exact h.dct
  · obtain ⟨y, hy, rfl⟩ := List.mem_map.mp hx
    obtain ⟨h1, h2⟩ := h.row y hy
    have nl : y.la ≠ r.wa := ne_of h1 (h.row r hr).2 fun z => by cases z
    by_cases e : y.c.n = r.c.n
    · have := same y hy e
      subst this
      rw [if_pos rfl]
      exact ⟨by show upd H y.wa _ y.la = _; rw [upd_ne nl]; exact h1, upd_same⟩
    · rw [if_neg e]
      have nw : y.wa ≠ r.wa := fun z => e (by rw [sameW y hy z])
      exact ⟨by rw [upd_ne nl]; exact h1, by rw [upd_ne nw]; exact h2⟩
  · have e : (bk (setR R r.c.n l v)).map (·.n) = (bk R).map (·.n) := by
      unfold bk
      rw [List.map_map, List.map_map]
      exact setR_map (fun r => r.c.n) (fun _ _ _ => rfl) R _ l v
    rw [e]
    exact h.nd
  · rw [setR_map (fun r => r.la) (fun _ _ _ => rfl)]
    exact h.ndl
  · rw [setR_map (fun r => r.wa) (fun _ _ _ => rfl)]
    exact h.ndw
  · obtain ⟨y, hy, rfl⟩ := List.mem_map.mp hx
    have := h.mw y hy
    by_cases e : y.c.n = r.c.n
    · rw [if_pos e]; exact this
    · rw [if_neg e]; exact this
  · obtain ⟨y, hy, rfl⟩ := List.mem_map.mp hx
    have := h.wn y hy
    by_cases e : y.c.n = r.c.n
    · rw [if_pos e]; exact wput_keys _ _ _ this
    · rw [if_neg e]; exact this
theorem MF_setR {m : Addr} {R : List CRow} {n : Int} {l : Str} {v : Int} {b : Addr} (h : MF m (setR R n l v) b) : MF m R b := by
  rcases h with h | ⟨r, hr, h⟩
  · exact .inl h
  · obtain ⟨y, hy, rfl⟩ := List.mem_map.mp hr
    refine .inr ⟨y, hy, ?_⟩
    by_cases e : y.c.n = n
    · rw [if_pos e] at h; exact h
    · rw [if_neg e] at h; exact h
theorem Mv.setw {H H' : Hp} {m : Addr} {R : List CRow} {r : CRow} (hr : r ∈ R) (e : Ex H H') (l : Str) (v : Int) (o : HO) : Mv (MF m R) H (MF m (setR R r.c.n l v)) (upd H' r.wa o) :=
  ⟨fun b u h n => by
    rw [upd_ne (fun z => n (.inr ⟨r, hr, .inr z⟩))]
    exact e _ _ h, fun b h => .inl (MF_setR h)⟩
end HW

/-! list(d.items()) compared, a comprehension over what a dict holds -/
namespace HI
open PySem PySem.Spec PyProof.Rows L2 Evl HB MB HW
variable {σ : L2.St} {H H' : Hp} {K : PySem.W.Frag} {x y z w v : V} {ta tb tc te tl : TE} {t : TT}
def dI (ws : List (Str × Int)) : PyData := .list (ws.map fun p => .tuple [.str p.1, .int p.2])
theorem dp_pairs : ∀ {ts : List Addr} {ws : List (Str × Int)}, Paired (fun (t : Addr) (q : Key × V) => H t = some (.tup [kV q.1, q.2])) ts (wkv ws) → DpAll K H (ts.map V.ref) (ws.map fun p => .tuple [.str p.1, .int p.2])
  | [], [], _ => .nil
  | [], _ :: _, h => nomatch h
  | _ :: _, [], h => nomatch h
  | t :: ts, p :: ws, h => by
    cases h with
    | cons h r => exact .cons (.tup (.of h) (.cons (.str _) (.cons (.int _) .nil))) (dp_pairs r)
theorem dp_ex {H H' : Hp} (e : Ex H H') {v : V} {d : PyData} (h : Dp K H v d) : Dp K H' v d := by
  refine @Dp.rec K H (fun v d _ => Dp K H' v d) (fun v d _ => DpAll K H' v d) ?_ ?_ ?_ ?_ ?_ ?_ ?_ ?_ v d h
  · exact .non
  · exact fun b => .bl b
  · exact fun i => .int i
  · exact fun x => .str x
  · exact fun h _ k => .lst (ex_l e h) k
  · exact fun h _ k => .tup (ex_t e h) k
  · exact .nil
  · exact fun _ _ a b => .cons a b
theorem dI_can (ws : List (Str × Int)) (h : ∀ w ∈ ws, PyData.strOk w.1 = true) : (dI ws).canLay0 = true := by
  unfold dI
  rw [PyData.canLay0]
  refine canLay_all _ _ fun a ha => ?_
  rw [PyData.canLay0, PyData.canLayAll0, PyData.canLay0, PyData.canLayAll0, PyData.canLay0, PyData.canLayAll0, h a ha]
  rfl
theorem dI_shaped (ws : List (Str × Int)) (h : ∀ w ∈ ws, PyData.strOk w.1 = true) : SeqAt.shaped (dI ws) = true :=
  shaped_list _ _ (fun a ha => by
    rw [PyData.canLay0, PyData.canLayAll0, PyData.canLay0, PyData.canLayAll0, PyData.canLay0, PyData.canLayAll0, h a ha]
    rfl) fun a _ => by
    rw [PyData.depth, PyData.depthAll, PyData.depth, PyData.depthAll, PyData.depth, PyData.depthAll]
    decide
/-- list(d.items()), of words -/
def EvI (K : PySem.W.Frag) (te : TE) (σ : L2.St) (H : Hp) (ws : List (Str × Int)) : Prop := ∀ H1, Ex H H1 → ∀ Q : VK, (∀ p H2, H1 p = none → Ex H1 H2 → Dp K H2 (.ref p) (dI ws) → Q (.ref p) H2) → te σ H1 Q
theorem ev_items {a : Addr} {ws : List (Str × Int)} (ha : Ev ta σ H (.ref a)) (h : H a = some (.dK (wkv ws))) : EvI K (LiI.tListItems ta) σ H ws := fun H1 e Q q =>
  ha H1 e _ fun H2 e2 => ⟨a, wkv ws, rfl, e2 _ _ (e _ _ h), fun H3 p ts k1 k2 _ _ k5 k6 => q p H3 (fresh_back e2 k2) (e2.trans k1) (.lst (.of k5) (dp_pairs k6))⟩
theorem ev_neI {ws us : List (Str × Int)} (ha : EvI K ta σ H ws) (hb : EvI K tb σ H us) (o1 : ∀ w ∈ ws, PyData.strOk w.1 = true) (o2 : ∀ w ∈ us, PyData.strOk w.1 = true) : Ev (tOp (rNeD K) ta tb) σ H (.bl (!PyData.eqv (dI ws) (dI us))) := fun H1 e Q q =>
  ha H1 e _ fun p H2 _ e2 d2 => hb H2 (e.trans e2) _ fun p3 H3 _ e3 d3 => ⟨dI ws, dI us, dp_ex e3 d2, d3, dI_shaped ws o1, dI_shaped us o2, q H3 (e2.trans e3)⟩
theorem ev_neI0 {ws : List (Str × Int)} (ha : EvI K ta σ H ws) (hb : EvI K tb σ H ws) (o1 : ∀ w ∈ ws, PyData.strOk w.1 = true) : Ev (tOp (rNeD K) ta tb) σ H (.bl false) := by
  have := ev_neI ha hb o1 o1
  rw [SeqAt.eqv_refl _ (dI_can ws o1)] at this
  exact this
/-- while a dict is locked -/
theorem ex_lock {d : Addr} {u : HO} {o : Obj} {H1 H2 : Hp} (hd : H1 d = some u) (e : Ex (upd H1 d (.frz o u)) H2) : Ex H1 (upd H2 d u) := fun b w hb => by
  by_cases h : b = d
  · subst h
    rw [upd_same, ← hb, hd]
  · rw [upd_ne h]
    exact e b w (by rw [upd_ne h]; exact hb)
theorem ev_lock {d : Addr} {u : HO} (hd : H d = some u) (mu : Mut (some u)) (h : ∀ (H1 : Hp) (o : Obj), Ex H H1 → Ev te σ (upd H1 d (.frz o u)) z) : Ev (tLockE te) σ H z := fun H1 e Q q =>
  ⟨d, u, e _ _ hd, mu, fun o => h H1 o e _ (Ex.refl _) _ fun H2 e2 => ⟨e2 _ _ upd_same, q _ (ex_lock (e _ _ hd) e2)⟩⟩
theorem el_lock {d : Addr} {u : HO} {xs : List V} (hd : H d = some u) (mu : Mut (some u)) (h : ∀ (H1 : Hp) (o : Obj), Ex H H1 → EvL te σ (upd H1 d (.frz o u)) xs) : EvL (tLockE te) σ H xs := fun H1 e Q q =>
  ⟨d, u, e _ _ hd, mu, fun o => h H1 o e _ (Ex.refl _) _ fun p H2 np e2 h2 => by
    have ne : p ≠ d := fun z => by rw [z, upd_same] at np; cases np
    rw [upd_ne ne] at np
    exact ⟨e2 _ _ upd_same, q p _ np (ex_lock (e _ _ hd) e2) (by rw [upd_ne ne]; exact h2)⟩⟩
/-- [.. for v in d.values() if ..] -/
theorem el_lcVals {a : Addr} {kvs : List (Key × V)} {o : Obj} {j : Nat} {vs : List Nat} (f : Nat → Bool) (g : Nat → V) (h : Ev tl σ H (.ref a)) (hx : H a = some (.frz o (.dK kvs))) (hz : kvs.length ≤ 40000) (hw : ∀ x, wipe ((wipe σ vs).set j (some x)) vs = wipe σ vs)
    (ht : ∀ (i : Nat) (k : Key) (x : V) H1, Ex H H1 → kvs[i]? = some (k, x) → EvT t ((wipe σ vs).set j (some x)) H1 (f i)) (he : ∀ (i : Nat) (k : Key) (x : V) H1, Ex H H1 → kvs[i]? = some (k, x) → f i = true → Ev te ((wipe σ vs).set j (some x)) H1 (g i)) :
    EvL (tLc (iVals tl) (gName j) t te vs) σ H (given kvs.length f g) := fun H0 e Q q => h H0 e _ fun H1 e1 => ⟨a, o, kvs, rfl, e1 _ _ (e _ _ hx), fun D hD =>
  lc_it walk_values (Cw H1 f g D) ⟨hD, Ex.new hD, upd_same⟩ (fun _ _ _ p => p.2.1 _ _ (e1 _ _ (e _ _ hx))) (fun i x Hb Hc hi p hy => by
    obtain ⟨rfl, k, hc⟩ := hy
    exact ⟨hw _, cw_turn p (by omega) (ht i k x H1 (e.trans e1) hc) fun hf => he i k x H1 (e.trans e1) hc hf⟩) fun Hb p => q D Hb (fresh_back e1 p.1) (e1.trans p.2.1) p.2.2⟩
/-- [.. for k in d if ..] -/
theorem el_lcKeys {a : Addr} {kvs : List (Key × V)} {o : Obj} {j : Nat} {vs : List Nat} (f : Nat → Bool) (g : Nat → V) (h : Ev tl σ H (.ref a)) (hx : H a = some (.frz o (.dK kvs))) (hz : kvs.length ≤ 40000) (hw : ∀ x, wipe ((wipe σ vs).set j (some x)) vs = wipe σ vs)
    (ht : ∀ (i : Nat) (k : Key) (x : V) H1, Ex H H1 → kvs[i]? = some (k, x) → EvT t ((wipe σ vs).set j (some (kV k))) H1 (f i)) (he : ∀ (i : Nat) (k : Key) (x : V) H1, Ex H H1 → kvs[i]? = some (k, x) → f i = true → Ev te ((wipe σ vs).set j (some (kV k))) H1 (g i)) :
    EvL (tLc (iKeys tl) (gName j) t te vs) σ H (given kvs.length f g) := fun H0 e Q q => h H0 e _ fun H1 e1 => ⟨a, o, rfl, .inl ⟨kvs, e1 _ _ (e _ _ hx), fun D hD =>
  lc_it walk_keys (Cw H1 f g D) ⟨hD, Ex.new hD, upd_same⟩ (fun _ _ _ p => p.2.1 _ _ (e1 _ _ (e _ _ hx))) (fun i x Hb Hc hi p hy => by
    obtain ⟨rfl, k, v, hc, rfl⟩ := hy
    exact ⟨hw _, cw_turn p (by omega) (ht i k v H1 (e.trans e1) hc) fun hf => he i k v H1 (e.trans e1) hc hf⟩) fun Hb p => q D Hb (fresh_back e1 p.1) (e1.trans p.2.1) p.2.2⟩⟩
/-- all of a new list of truths -/
theorem ev_allN {bs : List Bool} (h : EvL te σ H (bs.map V.bl)) : Ev (tCB (rAll K) (tCons te tNil)) σ H (.bl (bs.all id)) := fun H1 e Q q =>
  h H1 e _ fun p H2 _ e2 h2 => ⟨p, bs, rfl, .of h2, q H2 e2⟩
/-! ### a comprehension of new pairs, dict(..) of it -/
def givenP (n : Nat) (f : Nat → Bool) (g : Nat → Key × V) : List (Key × V) := ((List.range n).filter f).map g
theorem givenP_yes {n : Nat} {f : Nat → Bool} {g : Nat → Key × V} (h : f n = true) : givenP (n + 1) f g = givenP n f g ++ [g n] := by
  unfold givenP
  rw [List.range_succ, List.filter_append, List.map_append, List.filter_cons, if_pos h] <;> rfl
theorem givenP_no {n : Nat} {f : Nat → Bool} {g : Nat → Key × V} (h : f n = false) : givenP (n + 1) f g = givenP n f g := by
  unfold givenP
  rw [List.range_succ, List.filter_append, List.map_append, List.filter_cons, if_neg (by rw [h]; decide)]
  show _ ++ [] = _
  rw [List.append_nil]
theorem givenP_len (n : Nat) (f : Nat → Bool) (g : Nat → Key × V) : (givenP n f g).length ≤ n := by
  unfold givenP
  rw [List.length_map]
  have h := List.length_filter_le f (List.range n)
  rw [List.length_range] at h
  exact h
theorem givenP_of {α : Type} (d : α) (xs : List α) (p : α → Bool) (g : α → Key × V) : givenP xs.length (fun i => p (xs.getD i d)) (fun i => g (xs.getD i d)) = (xs.filter p).map g := by
  have e : xs = (List.range xs.length).map fun i => xs.getD i d := by
    refine List.ext_getElem? fun i => ?_
    rw [List.getElem?_map]
    by_cases h : i < xs.length
    · rw [List.getElem?_range h, List.getElem?_eq_getElem h]
      show some xs[i] = some (xs.getD i d)
      rw [List.getD_eq_getElem?_getD, List.getElem?_eq_getElem h]
      rfl
    · rw [List.getElem?_eq_none (by omega), List.getElem?_eq_none (by rw [List.length_range]; omega)]
      rfl
  unfold givenP
  conv => rhs; rw [e, List.filter_map, List.map_map]
  rfl
abbrev PrAt (H : Hp) (ps : List Addr) (kvs : List (Key × V)) : Prop := Paired (fun (t : Addr) (q : Key × V) => H t = some (.tup [kV q.1, q.2])) ps kvs
theorem prAt_keep {H H' : Hp} : ∀ {ps : List Addr} {kvs : List (Key × V)}, PrAt H ps kvs → (∀ t ∈ ps, ∀ u, H t = some u → H' t = some u) → PrAt H' ps kvs
  | _, _, .nil, _ => .nil
  | _, _, .cons h r, k => .cons (k _ List.mem_cons_self _ h) (prAt_keep r fun t ht => k t (List.mem_cons_of_mem _ ht))
theorem prAt_snoc {H : Hp} {t : Addr} {q : Key × V} : ∀ {ps : List Addr} {kvs : List (Key × V)}, PrAt H ps kvs → H t = some (.tup [kV q.1, q.2]) → PrAt H (ps ++ [t]) (kvs ++ [q])
  | _, _, .nil, k => .cons k .nil
  | _, _, .cons h r, k => .cons h (prAt_snoc r k)
theorem prAt_len {H : Hp} : ∀ {ps : List Addr} {kvs : List (Key × V)}, PrAt H ps kvs → ps.length = kvs.length
  | _, _, .nil => rfl
  | _, _, .cons _ r => congrArg (· + 1) (prAt_len r)
/-- a new list of new pairs -/
def EvP (te : TE) (σ : L2.St) (H : Hp) (kvs : List (Key × V)) : Prop := ∀ H1, Ex H H1 → ∀ Q : VK, (∀ p ps H2, H1 p = none → Ex H1 H2 → H2 p = some (.lst (ps.map V.ref)) → PrAt H2 ps kvs → Q (.ref p) H2) → te σ H1 Q
def CwP (H : Hp) (f : Nat → Bool) (g : Nat → Key × V) (D : Addr) (i : Nat) (H' : Hp) : Prop := H D = none ∧ Ex H H' ∧ ∃ ps : List Addr, H' D = some (.lst (ps.map V.ref)) ∧ PrAt H' ps (givenP i f g) ∧ D ∉ ps
theorem cwP_turn {f : Nat → Bool} {g : Nat → Key × V} {D : Addr} {i : Nat} {σ2 : L2.St} (p : CwP H f g D i H') (hi : i < 50000) (ht : EvT t σ2 H (f i)) (he : f i = true → EvU te σ2 H [kV (g i).1, (g i).2]) :
    t σ2 H' fun b H3 => if b = true then te σ2 H3 fun y H4 => ∃ acc, H4 D = some (.lst acc) ∧ acc.length < sizeLine ∧ CwP H f g D (i + 1) (upd H4 D (.lst (acc ++ [y]))) else CwP H f g D (i + 1) H3 := by
  obtain ⟨p1, p2, ps, p3, p4, p5⟩ := p
  refine ht H' p2 _ fun H3 e3 => ?_
  cases hf : f i with
  | true =>
    show te σ2 H3 fun y H4 => ∃ acc, H4 D = some (.lst acc) ∧ acc.length < sizeLine ∧ CwP H f g D (i + 1) (upd H4 D (.lst (acc ++ [y])))
    refine he hf H3 (p2.trans e3) _ fun q H4 nq e4 hq => ?_
    have nd : q ≠ D := fun z => by rw [z, e3 _ _ p3] at nq; cases nq
    refine ⟨ps.map V.ref, e4 D _ (e3 D _ p3), sz_lt (by rw [List.length_map, prAt_len p4]; have := givenP_len i f g; omega), p1, Ex.mut ((p2.trans e3).trans e4) p1, ps ++ [q], ?_, ?_, ?_⟩
    · rw [upd_same, List.map_append]
      rfl
    · rw [givenP_yes hf]
      refine prAt_snoc (prAt_keep p4 fun t ht u hu => ?_) ?_
      · rw [upd_ne fun z => p5 (by rw [← z]; exact ht)]
        exact e4 _ _ (e3 _ _ hu)
      · rw [upd_ne nd]
        exact hq
    · intro z
      rcases List.mem_append.mp z with z | z
      · exact p5 z
      · exact nd (List.mem_singleton.mp z).symm
  | false =>
    show CwP H f g D (i + 1) H3
    refine ⟨p1, p2.trans e3, ps, e3 _ _ p3, ?_, p5⟩
    rw [givenP_no hf]
    exact prAt_keep p4 fun t _ u hu => e3 _ _ hu
/-- [(.., ..) for x in new list if ..] -/
theorem ep_lcNL {xs : List V} {j : Nat} {vs : List Nat} (f : Nat → Bool) (g : Nat → Key × V) (h : EvL tl σ H xs) (hz : xs.length ≤ 40000) (hw : ∀ x, wipe ((wipe σ vs).set j (some x)) vs = wipe σ vs)
    (ht : ∀ (i : Nat) (x : V) H1, Ex H H1 → xs[i]? = some x → EvT t ((wipe σ vs).set j (some x)) H1 (f i)) (he : ∀ (i : Nat) (x : V) H1, Ex H H1 → xs[i]? = some x → f i = true → EvU te ((wipe σ vs).set j (some x)) H1 [kV (g i).1, (g i).2]) :
    EvP (tLc (iList K tl) (gName j) t te vs) σ H (givenP xs.length f g) := fun H0 e Q q => h H0 e _ fun a H1 ha e1 hx => ⟨a, rfl, ⟨xs, .of hx⟩, fun D hD =>
  lc_list (xs := xs) (CwP H1 f g D) ⟨hD, Ex.new hD, [], upd_same, .nil, List.not_mem_nil⟩ (fun i H' _ p => .of (p.2.1 a _ hx)) (fun i x H' hi p => ⟨hw x, cwP_turn p (by have := (List.getElem?_eq_some_iff.mp hi).1; omega) (ht i x H1 (e.trans e1) hi) (fun hf => he i x H1 (e.trans e1) hi hf)⟩)
    (fun H' ⟨p1, p2, ps, p3, p4, _⟩ => q D ps H' (fresh_back e1 p1) (e1.trans p2) p3 p4)⟩
/-- .. over the keys of a dict that is locked -/
theorem ep_lcKeys {a : Addr} {kvs : List (Key × V)} {o : Obj} {j : Nat} {vs : List Nat} (f : Nat → Bool) (g : Nat → Key × V) (h : Ev tl σ H (.ref a)) (hx : H a = some (.frz o (.dK kvs))) (hz : kvs.length ≤ 40000) (hw : ∀ x, wipe ((wipe σ vs).set j (some x)) vs = wipe σ vs)
    (ht : ∀ (i : Nat) (k : Key) (x : V) H1, Ex H H1 → kvs[i]? = some (k, x) → EvT t ((wipe σ vs).set j (some (kV k))) H1 (f i)) (he : ∀ (i : Nat) (k : Key) (x : V) H1, Ex H H1 → kvs[i]? = some (k, x) → f i = true → EvU te ((wipe σ vs).set j (some (kV k))) H1 [kV (g i).1, (g i).2]) :
    EvP (tLc (iKeys tl) (gName j) t te vs) σ H (givenP kvs.length f g) := fun H0 e Q q => h H0 e _ fun H1 e1 => ⟨a, o, rfl, .inl ⟨kvs, e1 _ _ (e _ _ hx), fun D hD =>
  lc_it walk_keys (CwP H1 f g D) ⟨hD, Ex.new hD, [], upd_same, .nil, List.not_mem_nil⟩ (fun _ _ _ p => p.2.1 _ _ (e1 _ _ (e _ _ hx))) (fun i x Hb Hc hi p hy => by
    obtain ⟨rfl, k, v, hc, rfl⟩ := hy
    exact ⟨hw _, cwP_turn p (by omega) (ht i k v H1 (e.trans e1) hc) fun hf => he i k v H1 (e.trans e1) hc hf⟩) fun Hb ⟨p1, p2, ps, p3, p4, _⟩ => q D ps Hb (fresh_back e1 p1) (e1.trans p2) p3 p4⟩⟩
theorem prAt_unlock {H : Hp} {d : Addr} {o : Obj} {u : HO} (hz : H d = some (.frz o u)) : ∀ {ps : List Addr} {kvs : List (Key × V)}, PrAt H ps kvs → PrAt (upd H d u) ps kvs
  | _, _, .nil => .nil
  | _, _, .cons h r => .cons (by rw [upd_ne fun z => (by rw [z, hz] at h; cases h)]; exact h) (prAt_unlock hz r)
theorem ep_lock {d : Addr} {u : HO} {kvs : List (Key × V)} (hd : H d = some u) (mu : Mut (some u)) (h : ∀ (H1 : Hp) (o : Obj), Ex H H1 → EvP te σ (upd H1 d (.frz o u)) kvs) : EvP (tLockE te) σ H kvs := fun H1 e Q q =>
  ⟨d, u, e _ _ hd, mu, fun o => h H1 o e _ (Ex.refl _) _ fun p ps H2 np e2 h2 h3 => by
    have hz : H2 d = some (.frz o u) := e2 _ _ upd_same
    have ne : p ≠ d := fun z => by rw [z, upd_same] at np; cases np
    rw [upd_ne ne] at np
    exact ⟨hz, q p ps _ np (ex_lock (e _ _ hd) e2) (by rw [upd_ne ne]; exact h2) (prAt_unlock hz h3)⟩⟩
theorem prAt_sqT : ∀ {ps : List Addr} {kvs : List (Key × V)}, PrAt H ps kvs → Paired (fun p kv => SqT K H p [kV kv.1, kv.2]) ps kvs
  | _, _, .nil => .nil
  | _, _, .cons h r => .cons (.of h) (prAt_sqT r)
theorem merge_new : ∀ (kvs acc : List (Key × V)), ((acc ++ kvs).map (·.1)).Nodup → mergeK acc kvs = acc ++ kvs
  | [], acc, _ => (List.append_nil acc).symm
  | p :: r, acc, h => by
    have hp : valV acc p.1 = none := by
      unfold valV
      rw [Option.map_eq_none_iff, List.find?_eq_none]
      intro q hq e
      rw [List.map_append] at h
      exact (List.nodup_append.mp h).2.2 q.1 (List.mem_map.mpr ⟨q, hq, rfl⟩) p.1 (by rw [List.map_cons]; exact List.mem_cons_self) (of_decide_eq_true e)
    show mergeK (putK acc p.1 p.2) r = _
    rw [putK_new _ hp, merge_new r]
    · rw [List.append_assoc]; rfl
    · rw [List.append_assoc]; exact h
/-- dict(new list of new pairs) -/
theorem ed_dict {ta : TE} {kvs : List (Key × V)} (h : EvP ta σ H kvs) (nd : (kvs.map (·.1)).Nodup) : EvD (tCB (fun xs H Q => ∃ (a : Addr) (ps : List Addr) (kvs : List (Key × V)), xs = [.ref a] ∧ SqL K H a (ps.map V.ref) ∧ Paired (fun p kv => SqT K H p [kV kv.1, kv.2]) ps kvs ∧
    ∀ p, H p = none → Q (.ref p) (upd H p (.dK (mergeK [] kvs)))) (tCons ta tNil)) σ H kvs := fun H1 e Q q =>
  h H1 e _ fun p ps H2 np e2 h2 h3 => ⟨p, ps, kvs, rfl, .of h2, prAt_sqT h3, fun d hd => q d _ (fresh_back e2 hd) (e2.trans (Ex.new hd)) (by rw [upd_same, merge_new kvs [] (by rw [List.nil_append]; exact nd)]; rfl)⟩
end HI

/-! what the law's deeds make of its model: a row put, put anew, popped; a word popped -/
namespace HM
open PySem PySem.Spec PyProof.Rows L2 Evl HB HS MB HW
/-! ### words of a row, changed -/
def modR (R : List CRow) (n : Int) (g : List (Str × Int) → List (Str × Int)) : List CRow := R.map fun r => if r.c.n = n then { r with c := { r.c with ws := g r.c.ws } } else r
def modB (B : Bk) (n : Int) (g : List (Str × Int) → List (Str × Int)) : Bk := B.map fun c => if c.n = n then { c with ws := g c.ws } else c
theorem setW_mod (B : Bk) (n : Int) (l : Str) (v : Int) : setW B n l v = modB B n fun ws => wput ws l v := rfl
/-- a word told no more -/
def dropW (B : Bk) (n : Int) (l : Str) : Bk := modB B n fun ws => wdrop ws l
theorem bk_modR (R : List CRow) (n : Int) (g : List (Str × Int) → List (Str × Int)) : bk (modR R n g) = modB (bk R) n g := by
  unfold bk modR modB
  rw [List.map_map, List.map_map]
  refine List.map_congr_left fun r _ => ?_
  show (if r.c.n = n then _ else r).c = if r.c.n = n then _ else r.c
  split <;> rfl
theorem modR_map {α : Type} (f : CRow → α) (g : List (Str × Int) → List (Str × Int)) (hf : ∀ r : CRow, f { r with c := { r.c with ws := g r.c.ws } } = f r) (R : List CRow) (n : Int) : (modR R n g).map f = R.map f := by
  unfold modR
  rw [List.map_map]
  refine List.map_congr_left fun r _ => ?_
  show f (if r.c.n = n then _ else r) = f r
  split
  · exact hf r
  · rfl
theorem _root_.HW.MAt.modw {H : Hp} {m : Addr} {R : List CRow} {r : CRow} (h : MAt H m R) (hr : r ∈ R) (g : List (Str × Int) → List (Str × Int)) (hg : ((g r.c.ws).map (·.1)).Nodup) : MAt (upd H r.wa (.dK (wkv (g r.c.ws)))) m (modR R r.c.n g) := by
  have same : ∀ x ∈ R, x.c.n = r.c.n → x = r := fun x hx e => nodup_at (nd_n h.nd) hx hr e
  have sameW : ∀ x ∈ R, x.wa = r.wa → x = r := fun x hx e => nodup_at h.ndw hx hr e
  refine ⟨?_, fun x hx => ?_, ?_, ?_, ?_, fun x hx => ?_, fun x hx => ?_⟩
  · refine rd_upd (Ne.symm (h.mw r hr)) ?_
    have e : mkv (modR R r.c.n g) = mkv R := modR_map (fun r => ((.inl r.c.n : Key), V.ref r.la)) g (fun _ => rfl) R _
    rw [e]
    exact h.dct
  · obtain ⟨y, hy, rfl⟩ := List.mem_map.mp hx
    obtain ⟨h1, h2⟩ := h.row y hy
    have nl : y.la ≠ r.wa := ne_of h1 (h.row r hr).2 fun z => by cases z
    by_cases e : y.c.n = r.c.n
    · have := same y hy e
      subst this
      rw [if_pos rfl]
      exact ⟨by show upd H y.wa _ y.la = _; rw [upd_ne nl]; exact h1, upd_same⟩
    · rw [if_neg e]
      have nw : y.wa ≠ r.wa := fun z => e (by rw [sameW y hy z])
      exact ⟨by rw [upd_ne nl]; exact h1, by rw [upd_ne nw]; exact h2⟩
  · have e : (bk (modR R r.c.n g)).map (·.n) = (bk R).map (·.n) := by
      unfold bk
      rw [List.map_map, List.map_map]
      exact modR_map (fun r => r.c.n) g (fun _ => rfl) R _
    rw [e]
    exact h.nd
  · rw [modR_map (fun r => r.la) g (fun _ => rfl)]
    exact h.ndl
  · rw [modR_map (fun r => r.wa) g (fun _ => rfl)]
    exact h.ndw
  · obtain ⟨y, hy, rfl⟩ := List.mem_map.mp hx
    have := h.mw y hy
    by_cases e : y.c.n = r.c.n
    · rw [if_pos e]; exact this
    · rw [if_neg e]; exact this
  · obtain ⟨y, hy, rfl⟩ := List.mem_map.mp hx
    have := h.wn y hy
    by_cases e : y.c.n = r.c.n
    · have := same y hy e
      subst this
      rw [if_pos rfl]; exact hg
    · rw [if_neg e]; exact this
theorem MF_modR {m : Addr} {R : List CRow} {n : Int} {g : List (Str × Int) → List (Str × Int)} {b : Addr} (h : MF m (modR R n g) b) : MF m R b := by
  rcases h with h | ⟨r, hr, h⟩
  · exact .inl h
  · obtain ⟨y, hy, rfl⟩ := List.mem_map.mp hr
    refine .inr ⟨y, hy, ?_⟩
    by_cases e : y.c.n = n
    · rw [if_pos e] at h; exact h
    · rw [if_neg e] at h; exact h
theorem _root_.HW.Mv.modw {H H' : Hp} {m : Addr} {R : List CRow} {r : CRow} (hr : r ∈ R) (e : Ex H H') (g : List (Str × Int) → List (Str × Int)) (o : HO) : Mv (MF m R) H (MF m (modR R r.c.n g)) (upd H' r.wa o) :=
  ⟨fun b u h n => by
    rw [upd_ne (fun z => n (.inr ⟨r, hr, .inr z⟩))]
    exact e _ _ h, fun b h => .inl (MF_modR h)⟩
theorem wdrop_keys (ws : List (Str × Int)) (l : Str) (nd : (ws.map (·.1)).Nodup) : ((wdrop ws l).map (·.1)).Nodup := List.Nodup.sublist (List.filter_sublist.map _) nd
theorem drop_wkv (l : Str) (ws : List (Str × Int)) : dropK (wkv ws) (.inr l) = wkv (wdrop ws l) := by
  unfold dropK wkv wdrop
  rw [List.filter_map]
  congr 1
  refine List.filter_congr fun p _ => ?_
  show decide ((Sum.inr p.1 : Key) ≠ Sum.inr l) = decide (p.1 ≠ l)
  exact decide_eq_decide.mpr ⟨fun h z => h (congrArg _ z), fun h z => h (Sum.inr.inj z)⟩
/-! ### rows -/
theorem val_none {R : List CRow} {n : Int} (h : n ∉ (bk R).map (·.n)) : valV (mkv R) (.inl n) = none := by
  rw [val_mkv, Option.map_eq_none_iff, List.find?_eq_none]
  intro r hr e
  have e := of_decide_eq_true e
  exact h (by rw [← e]; exact List.mem_map.mpr ⟨r.c, List.mem_map.mpr ⟨r, hr, rfl⟩, rfl⟩)
theorem put_mkv {R : List CRow} {r : CRow} (h : r.c.n ∉ (bk R).map (·.n)) : putK (mkv R) (.inl r.c.n) (.ref r.la) = mkv (R ++ [r]) := by
  rw [putK_new _ (val_none h)]
  unfold mkv
  rw [List.map_append]
  rfl
theorem MF_put {m : Addr} {R : List CRow} {r : CRow} {b : Addr} (h : MF m (R ++ [r]) b) : MF m R b ∨ b = r.la ∨ b = r.wa := by
  rcases h with h | ⟨x, hx, h⟩
  · exact .inl (.inl h)
  · rcases List.mem_append.mp hx with hx | hx
    · exact .inl (.inr ⟨x, hx, h⟩)
    · rw [List.mem_singleton.mp hx] at h
      exact .inr h
/-- a row more, its places new -/
theorem _root_.HW.MAt.put {H H' : Hp} {m : Addr} {R : List CRow} {r : CRow} (h : MAt H m R) (e : ∀ b u, b ≠ m → H b = some u → H' b = some u) (hn : r.c.n ∉ (bk R).map (·.n)) (n1 : H r.la = none) (n2 : H r.wa = none) (h1 : H' r.la = some (.lst r.items)) (h2 : H' r.wa = some (.dK (wkv r.c.ws))) (hw : (r.c.ws.map (·.1)).Nodup) :
    MAt (upd H' m (.dK (mkv (R ++ [r])))) m (R ++ [r]) := by
  obtain ⟨o, hm⟩ := rd_known h.dct
  have nl : r.la ≠ m := fun z => by rw [z, hm] at n1; cases n1
  have nw : r.wa ≠ m := fun z => by rw [z, hm] at n2; cases n2
  have old : ∀ x ∈ R, x.la ≠ r.la ∧ x.wa ≠ r.wa ∧ x.la ≠ m := fun x hx => by
    obtain ⟨q1, q2⟩ := h.row x hx
    refine ⟨fun z => (by rw [z, n1] at q1; cases q1), fun z => (by rw [z, n2] at q2; cases q2), fun z => ?_⟩
    rw [z] at q1
    rcases h.dct with q | ⟨o, q⟩
    · rw [q] at q1; cases q1
    · rw [q] at q1; cases q1
  refine ⟨.inl upd_same, fun x hx => ?_, ?_, ?_, ?_, fun x hx => ?_, fun x hx => ?_⟩
  · rcases List.mem_append.mp hx with hx | hx
    · obtain ⟨q1, q2⟩ := h.row x hx
      exact ⟨by rw [upd_ne (old x hx).2.2]; exact e _ _ (old x hx).2.2 q1, by rw [upd_ne (h.mw x hx)]; exact e _ _ (h.mw x hx) q2⟩
    · rw [List.mem_singleton.mp hx]
      exact ⟨by rw [upd_ne nl]; exact h1, by rw [upd_ne nw]; exact h2⟩
  · unfold bk
    rw [List.map_append, List.map_append]
    refine List.nodup_append.mpr ⟨h.nd, List.nodup_cons.mpr ⟨List.not_mem_nil, List.nodup_nil⟩, fun a ha b hb z => ?_⟩
    have hb : b ∈ [r.c.n] := hb
    rw [List.mem_singleton.mp hb] at z
    rw [z] at ha
    exact hn ha
  · rw [List.map_append]
    refine List.nodup_append.mpr ⟨h.ndl, List.nodup_cons.mpr ⟨List.not_mem_nil, List.nodup_nil⟩, fun a ha b hb z => ?_⟩
    have hb : b ∈ [r.la] := hb
    obtain ⟨x, hx, rfl⟩ := List.mem_map.mp ha
    rw [List.mem_singleton.mp hb] at z
    exact (old x hx).1 z
  · rw [List.map_append]
    refine List.nodup_append.mpr ⟨h.ndw, List.nodup_cons.mpr ⟨List.not_mem_nil, List.nodup_nil⟩, fun a ha b hb z => ?_⟩
    have hb : b ∈ [r.wa] := hb
    obtain ⟨x, hx, rfl⟩ := List.mem_map.mp ha
    rw [List.mem_singleton.mp hb] at z
    exact (old x hx).2.1 z
  · rcases List.mem_append.mp hx with hx | hx
    · exact h.mw x hx
    · rw [List.mem_singleton.mp hx]; exact nw
  · rcases List.mem_append.mp hx with hx | hx
    · exact h.wn x hx
    · rw [List.mem_singleton.mp hx]; exact hw
theorem _root_.HW.Mv.put {H H' : Hp} {m : Addr} {R : List CRow} {r : CRow} (e : ∀ b u, b ≠ m → H b = some u → H' b = some u) (n1 : H r.la = none) (n2 : H r.wa = none) (o : HO) : Mv (MF m R) H (MF m (R ++ [r])) (upd H' m o) :=
  ⟨fun b u h n => by
    rw [upd_ne (fun z => n (.inl z))]
    exact e _ _ (fun z => n (.inl z)) h, fun b h => (MF_put h).elim .inl fun z => .inr (z.elim (fun z => by rw [z]; exact n1) fun z => by rw [z]; exact n2)⟩
/-- without some rows -/
theorem _root_.HW.MAt.less {H : Hp} {m : Addr} {R : List CRow} (h : MAt H m R) (f : CRow → Bool) : MAt (upd H m (.dK (mkv (R.filter f)))) m (R.filter f) := by
  have sub : (R.filter f).Sublist R := List.filter_sublist
  refine ⟨.inl upd_same, fun x hx => ?_, (h.nd).sublist ((sub.map _).map _), (h.ndl).sublist (sub.map _), (h.ndw).sublist (sub.map _), fun x hx => h.mw x (sub.mem hx), fun x hx => h.wn x (sub.mem hx)⟩
  obtain ⟨q1, q2⟩ := h.row x (sub.mem hx)
  refine ⟨?_, by rw [upd_ne (h.mw x (sub.mem hx))]; exact q2⟩
  rw [upd_ne fun z => ?_]
  · exact q1
  · rw [z] at q1
    rcases h.dct with q | ⟨o, q⟩
    · rw [q] at q1; cases q1
    · rw [q] at q1; cases q1
theorem MF_less {m : Addr} {R : List CRow} {f : CRow → Bool} {b : Addr} (h : MF m (R.filter f) b) : MF m R b := by
  rcases h with h | ⟨x, hx, h⟩
  · exact .inl h
  · exact .inr ⟨x, List.filter_sublist.mem hx, h⟩
theorem _root_.HW.Mv.less {H H' : Hp} {m : Addr} {R : List CRow} (e : Ex H H') (f : CRow → Bool) (o : HO) : Mv (MF m R) H (MF m (R.filter f)) (upd H' m o) :=
  ⟨fun b u h n => by
    rw [upd_ne (fun z => n (.inl z))]
    exact e _ _ h, fun b h => .inl (MF_less h)⟩
theorem drop_mkv (n : Int) (R : List CRow) : dropK (mkv R) (.inl n) = mkv (R.filter fun r => decide (r.c.n ≠ n)) := by
  unfold dropK mkv
  rw [List.filter_map]
  congr 1
  refine List.filter_congr fun p _ => ?_
  show decide ((Sum.inl p.c.n : Key) ≠ Sum.inl n) = decide (p.c.n ≠ n)
  exact decide_eq_decide.mpr ⟨fun h z => h (congrArg _ z), fun h z => h (Sum.inl.inj z)⟩
def cutB (B : Bk) (n : Int) : Bk := B.filter fun c => decide (c.n ≠ n)
theorem bk_less (R : List CRow) (n : Int) : bk (R.filter fun r => decide (r.c.n ≠ n)) = cutB (bk R) n := by
  unfold bk cutB
  rw [List.filter_map]
  rfl
/-- the last row, put anew -/
theorem put_mkv2 {R : List CRow} {r r2 : CRow} (h : r.c.n ∉ (bk R).map (·.n)) (e : r2.c.n = r.c.n) : putK (mkv (R ++ [r])) (.inl r2.c.n) (.ref r2.la) = mkv (R ++ [r2]) := by
  unfold putK mkv
  rw [if_pos (List.any_eq_true.mpr ⟨(.inl r.c.n, .ref r.la), List.mem_map.mpr ⟨r, List.mem_append.mpr (.inr List.mem_cons_self), rfl⟩, decide_eq_true (by rw [e])⟩), List.map_append, List.map_append, List.map_append, List.map_map]
  congr 1
  · refine List.map_congr_left fun x hx => ?_
    show (if (Sum.inl x.c.n : Key) = Sum.inl r2.c.n then _ else _) = _
    rw [if_neg fun z => h ?_]
    rw [← e, ← Sum.inl.inj z]
    exact List.mem_map.mpr ⟨x.c, List.mem_map.mpr ⟨x, hx, rfl⟩, rfl⟩
  · show [if (Sum.inl r.c.n : Key) = Sum.inl r2.c.n then _ else _] = _
    rw [if_pos (by rw [e])]
    show [((Sum.inl r.c.n : Key), _)] = [(Sum.inl r2.c.n, _)]
    rw [e]
end HM

/-! a play as the law meets it: what its methods are to do, whatever lies within -/
namespace PI
open PySem PySem.Spec PyProof.Rows L2 Evl HB HS MB HW HM
/-- a name of a lamp -/
structure LampOk (s : Str) : Prop where
  pos : 1 ≤ s.length
  len : s.length ≤ 8
  low : ∀ c ∈ s.cps.toList, 97 ≤ c ∧ c ≤ 122
structure GoodC (c : Cu) : Prop where
  n1 : 1 ≤ c.n
  n2 : c.n ≤ 999999
  u1 : 0 ≤ c.up
  u2 : c.up ≤ 6000
  d1 : 0 ≤ c.down
  d2 : c.down ≤ 6000
  nd : (c.ws.map (·.1)).Nodup
  lv : ∀ p ∈ c.ws, 0 ≤ p.2 ∧ p.2 ≤ 100
/-- a book that a play may hold; ls: the lamps told of -/
structure Good (ls : List Str) (B : Bk) : Prop where
  nd : (B.map (·.n)).Nodup
  len : B.length ≤ 100
  cue : ∀ c ∈ B, GoodC c
  lam : ∀ c ∈ B, ∀ p ∈ c.ws, p.1 ∈ ls
  ok : ∀ l ∈ ls, LampOk l
  few : ls.length < 64
/-- the look of a cue, by the alphabet, the dark ones left out -/
structure LookIs (B : Bk) (n : Int) (ws : List (Str × Int)) : Prop where
  up : (ws.map (·.1)).Pairwise tlt
  mem : ∀ l v, (l, v) ∈ ws ↔ v = lvl B n l ∧ 0 < v
/-- words by the alphabet -/
structure WordsIs (us ws : List (Str × Int)) : Prop where
  up : (ws.map (·.1)).Pairwise tlt
  mem : ∀ l v, (l, v) ∈ ws ↔ wlook us l = some v
/-- a lamp's level at one cue only -/
def dueB (B : Bk) (o : Option Int) (l : Str) : Int := match o with
  | none => 0
  | some k => lvl B k l
def onlyB (B : Bk) (n : Int) (l : Str) (v : Int) : Bk := holdB (setW B n l v) (behindOf B n) l (dueB B (behindOf B n) l)
def holdsB (B : Bk) (o : Option Int) (ps : List (Str × Int)) : Bk := ps.foldl (fun B p => holdB B o p.1 p.2) B
def liftB (B : Bk) (n : Int) (ls : List Str) : Bk := holdsB (cutB B n) (behindOf B n) (ls.map fun l => (l, dueB B (behindOf B n) l))
/-! ### a method of a class -/
structure Mt (P : Program) (w : World) (K : PySem.W.Frag) (mg : Str → Option Value) (base : Heap) (C : Addr) (m : Str) (dvs : List V) (sp : Sp) : Prop where
  ex : ∃ (CX : CXT) (k : Nat) (f : Addr) (fd : FuncData) (ps : List Str) (ds : List Value), Meth K C m f ∧ Binds K fd ps ds ∧ Vals dvs ds ∧ k ≤ 20 ∧ FnOk P w K mg base CX k f fd ps sp ∧ ∀ X : Cx, X.prog = P → X.w = w → Passes CX X E0
section
variable {X : Cx} {C : Addr} {sp : Sp} {dvs : List V} {m : Str} {pos apos : Pos} {e o : Expr} {es : List Expr} {ta : TE} {t : TA}
theorem pe_dm {pl : Sem Bool} (D : Mt X.prog X.w X.K X.mg X.base C m dvs sp) (c : Cls X.K C) (hr : Room 20 X.A) (he : PE X o ta) (ha : PA X (e :: es) t)
    (hst : starEach (e :: es) X.env = (false, eval e X.env) :: starEach es X.env := by rfl) (hpl : (backTo pos (starEach es X.env)).any (·.1) = false := by rfl)
    (ht : eval (.Call (.Attribute o m apos) (e :: es) [] pos) X.env = (do
      let ov ← eval o X.env
      standAt apos.atName
      let (f, first) ← holding [ov] (getMethod ov m pl)
      callWith pos f first (backTo pos (starEach (e :: es) X.env)) (backToKw pos (keywordEach [] X.env))) := by rfl) :
    PE X (.Call (.Attribute o m apos) (e :: es) [] pos) (tMeth C m sp dvs E0 ta t) := by
  obtain ⟨CX, k, f, fd, ps, ds, hm, hb, hd, hk, F, pa⟩ := D.ex
  exact pe_meth he c hm F (hr.mono hk) hb hd (pa X rfl rfl) ha hst hpl ht
theorem pe_dm0 {pl : Sem Bool} (D : Mt X.prog X.w X.K X.mg X.base C m dvs sp) (c : Cls X.K C) (hr : Room 20 X.A) (he : PE X o ta)
    (ht : eval (.Call (.Attribute o m apos) [] [] pos) X.env = (do
      let ov ← eval o X.env
      standAt apos.atName
      let (f, first) ← holding [ov] (getMethod ov m pl)
      callWith pos f first (backTo pos (starEach [] X.env)) (backToKw pos (keywordEach [] X.env))) := by rfl) :
    PE X (.Call (.Attribute o m apos) [] [] pos) (tMeth C m sp dvs E0 ta tNil) := by
  obtain ⟨CX, k, f, fd, ps, ds, hm, hb, hd, hk, F, pa⟩ := D.ex
  exact pe_meth0 he c hm F (hr.mono hk) hb hd (pa X rfl rfl) ht
end
/-! ### the play -/
/-- when a play lies at an address: the lamps told of, its book, its places; the tables that its program reads; whether it has only, cut and lift -/
structure AtT where
  at_ : Hp → Addr → List Str → Bk → (Addr → Prop) → Prop
  tb : Addr → Prop
  full : Prop
  more : Prop
instance : CoeFun AtT (fun _ => Hp → Addr → List Str → Bk → (Addr → Prop) → Prop) := ⟨AtT.at_⟩
def spNumbers (At : AtT) : Sp := spL fun H vs xs => ∃ p ls B fp, vs = [.ref p] ∧ At H p ls B fp ∧ xs = (asc B).map fun c => V.int c.n
def spLook (At : AtT) : Sp := spD fun H vs kvs => ∃ p ls B fp n ws, vs = [.ref p, .int n] ∧ At H p ls B fp ∧ n ∈ B.map (·.n) ∧ LookIs B n ws ∧ kvs = wkv ws
def spLevel (At : AtT) : Sp := spR fun H vs z => ∃ p ls B fp n l, vs = [.ref p, .int n, .str l] ∧ At H p ls B fp ∧ n ∈ B.map (·.n) ∧ LampOk l ∧ z = .int (lvl B n l)
/-- a new tuple with a new dict in it -/
def RetC (c : Cu) (ws : List (Str × Int)) (H : Hp) (Q : VK) : Prop := ∀ q d H2, H q = none → H d = none → q ≠ d → Ex H H2 → H2 q = some (.tup [.int c.up, .int c.down, .bl c.fr, .ref d]) → H2 d = some (.dK (wkv ws)) → Q (.ref q) H2
def spCue (At : AtT) : Sp := fun vs H Q _ => ∃ p ls B fp n c ws, vs = [.ref p, .int n] ∧ At H p ls B fp ∧ cueAt B n = some c ∧ WordsIs c.ws ws ∧ RetC c ws H Q
/-- a deed: from the book B to B2 -/
def Deed (At : AtT) (p : Addr) (ls : List Str) (fp : Addr → Prop) (B2 : Bk) (H : Hp) (Q : VK) : Prop := ∀ H' fp', At H' p ls B2 fp' → Mv fp H fp' H' → Q .non H'
def spPut (At : AtT) : Sp := fun vs H Q _ => ∃ p ls B fp n up down fr, vs = [.ref p, .int n, .int up, .int down, .bl fr] ∧ At H p ls B fp ∧ n ∉ B.map (·.n) ∧ Good ls (B ++ [⟨n, up, down, fr, []⟩]) ∧ Deed At p ls fp (B ++ [⟨n, up, down, fr, []⟩]) H Q
def spTell (At : AtT) : Sp := fun vs H Q _ => ∃ p ls B fp n l v, vs = [.ref p, .int n, .str l, .int v] ∧ At H p ls B fp ∧ n ∈ B.map (·.n) ∧ l ∈ ls ∧ 0 ≤ v ∧ v ≤ 100 ∧ Deed At p ls fp (setW B n l v) H Q
def spUntell (At : AtT) : Sp := fun vs H Q _ => ∃ p ls B fp n l c, vs = [.ref p, .int n, .str l] ∧ At H p ls B fp ∧ cueAt B n = some c ∧ (wlook c.ws l).isSome = true ∧ Deed At p ls fp (dropW B n l) H Q
def spOnly (At : AtT) : Sp := fun vs H Q _ => ∃ p ls B fp n l v, vs = [.ref p, .int n, .str l, .int v] ∧ At H p ls B fp ∧ n ∈ B.map (·.n) ∧ l ∈ ls ∧ 0 ≤ v ∧ v ≤ 100 ∧ Deed At p ls fp (onlyB B n l v) H Q
def spCut (At : AtT) : Sp := fun vs H Q _ => ∃ p ls B fp n, vs = [.ref p, .int n] ∧ At H p ls B fp ∧ n ∈ B.map (·.n) ∧ Deed At p ls fp (cutB B n) H Q
def spLift (At : AtT) : Sp := fun vs H Q _ => ∃ p ls B fp n, vs = [.ref p, .int n] ∧ At H p ls B fp ∧ n ∈ B.map (·.n) ∧ Deed At p ls fp (liftB B n ls) H Q
/-- Play() -/
def tNew (At : AtT) : TE := fun _ H Q => (∀ b, At.tb b → GX.TabX H b) ∧ ∃ ls, (∀ l ∈ ls, LampOk l) ∧ ls.length < 64 ∧ ∀ H' x fp, At H' x ls [] fp → (∀ b, fp b → H b = none) → Ex H H' → Q (.ref x) H'
def mNames : List Str := ["put", "tell", "untell", "look", "level", "only", "cut", "lift", "numbers", "cue", "spare", "least"]
structure Pl (P : Program) (w : World) (K : PySem.W.Frag) (mg : Str → Option Value) (base : Heap) (C : Addr) (At : AtT) : Prop where
  cls : Cls K C
  good : ∀ {H p ls B fp}, At H p ls B fp → Good ls B
  ins : ∀ {H p ls B fp}, At H p ls B fp → ∃ dx fs, H p = some (.ins C dx fs) ∧ ∀ m ∈ mNames, fs.lookup m = none
  own : ∀ {H p ls B fp}, At H p ls B fp → fp p
  known : ∀ {H p ls B fp b}, At H p ls B fp → fp b → ∃ u, H b = some u
  tabs : ∀ {H p ls B fp b}, At H p ls B fp → At.tb b → GX.TabX H b ∧ ¬ fp b
  frame : ∀ {H H' p ls B fp}, At H p ls B fp → (∀ b u, fp b ∨ At.tb b → H b = some u → H' b = some u) → At H' p ls B fp
  new : ∀ (X : Cx) (p pos : Pos), X.prog = P → X.w = w → X.K = K → X.mg = mg → X.base = base → Room 20 X.A → Gl X "Play" → PE X (.Call (.Name "Play" p) [] [] pos) (tNew At)
  numbers : Mt P w K mg base C "numbers" [] (spNumbers At)
  look : At.full → Mt P w K mg base C "look" [] (spLook At)
  level : Mt P w K mg base C "level" [] (spLevel At)
  cue : Mt P w K mg base C "cue" [] (spCue At)
  put4 : Mt P w K mg base C "put" [] (spPut At)
  put3 : Mt P w K mg base C "put" [.bl false] (spPut At)
  put2 : Mt P w K mg base C "put" [.int 0, .bl false] (spPut At)
  put1 : Mt P w K mg base C "put" [.int 0, .int 0, .bl false] (spPut At)
  tell : Mt P w K mg base C "tell" [] (spTell At)
  untell : At.full → Mt P w K mg base C "untell" [] (spUntell At)
  only : At.more → Mt P w K mg base C "only" [] (spOnly At)
  cut : At.more → Mt P w K mg base C "cut" [] (spCut At)
  lift : At.more → Mt P w K mg base C "lift" [] (spLift At)
section
variable {P : Program} {w : World} {K : PySem.W.Frag} {mg : Str → Option Value} {base : Heap} {C : Addr} {At : AtT} {σ : L2.St} {H H' : Hp} {to : TE} {t : TA} {m : Str} {dvs : List V} {p : Addr} {ls : List Str} {B : Bk} {fp : Addr → Prop} {vs : List V} {z : V} {E : XK}
theorem Pl.ex (L : Pl P w K mg base C At) (h : At H p ls B fp) (e : Ex H H') : At H' p ls B fp := L.frame h fun b u _ q => e b u q
/-- what a method call of a play comes to -/
theorem ev_m {R : Hp → List V → V → Prop} (L : Pl P w K mg base C At) (h : At H p ls B fp) (hm : m ∈ mNames) (ho : Ev to σ H (.ref p)) (ha : EvA t σ H vs) (hR : ∀ H1, Ex H H1 → R H1 (.ref p :: (vs ++ dvs)) z) : Ev (tMeth C m (spR R) dvs E to t) σ H z := fun H1 e Q q =>
  ho H1 e _ fun H2 e2 => by
    obtain ⟨dx, fs, hi, hl⟩ := L.ins (L.ex h (e.trans e2))
    exact ⟨p, dx, fs, rfl, hi, hl m hm, ha H2 (e.trans e2) _ fun H3 e3 => ⟨z, hR H3 ((e.trans e2).trans e3), fun H4 e4 => q H4 ((e2.trans e3).trans e4)⟩⟩
theorem el_m {R : Hp → List V → List V → Prop} {xs : List V} (L : Pl P w K mg base C At) (h : At H p ls B fp) (hm : m ∈ mNames) (ho : Ev to σ H (.ref p)) (ha : EvA t σ H vs) (hR : ∀ H1, Ex H H1 → R H1 (.ref p :: (vs ++ dvs)) xs) : EvL (tMeth C m (spL R) dvs E to t) σ H xs := fun H1 e Q q =>
  ho H1 e _ fun H2 e2 => by
    obtain ⟨dx, fs, hi, hl⟩ := L.ins (L.ex h (e.trans e2))
    exact ⟨p, dx, fs, rfl, hi, hl m hm, ha H2 (e.trans e2) _ fun H3 e3 => ⟨xs, hR H3 ((e.trans e2).trans e3), fun q2 H4 np e4 h4 => q q2 H4 (fresh_back (e2.trans e3) np) ((e2.trans e3).trans e4) h4⟩⟩
theorem ed_m {R : Hp → List V → List (Key × V) → Prop} {xs : List (Key × V)} (L : Pl P w K mg base C At) (h : At H p ls B fp) (hm : m ∈ mNames) (ho : Ev to σ H (.ref p)) (ha : EvA t σ H vs) (hR : ∀ H1, Ex H H1 → R H1 (.ref p :: (vs ++ dvs)) xs) : EvD (tMeth C m (spD R) dvs E to t) σ H xs := fun H1 e Q q =>
  ho H1 e _ fun H2 e2 => by
    obtain ⟨dx, fs, hi, hl⟩ := L.ins (L.ex h (e.trans e2))
    exact ⟨p, dx, fs, rfl, hi, hl m hm, ha H2 (e.trans e2) _ fun H3 e3 => ⟨xs, hR H3 ((e.trans e2).trans e3), fun q2 H4 np e4 h4 => q q2 H4 (fresh_back (e2.trans e3) np) ((e2.trans e3).trans e4) h4⟩⟩
/-- any promise -/
theorem t_m {sp : Sp} {Q : VK} (L : Pl P w K mg base C At) (h : At H p ls B fp) (hm : m ∈ mNames) (ho : Ev to σ H (.ref p)) (ha : EvA t σ H vs) (hs : ∀ H1, Ex H H1 → sp (.ref p :: (vs ++ dvs)) H1 Q E) : tMeth C m sp dvs E to t σ H Q :=
  ho H (Ex.refl H) _ fun H2 e2 => by
    obtain ⟨dx, fs, hi, hl⟩ := L.ins (L.ex h e2)
    exact ⟨p, dx, fs, rfl, hi, hl m hm, ha H2 e2 _ fun H3 e3 => hs H3 (e2.trans e3)⟩
end
end PI

/-! looks and words by the alphabet: there is one of each -/
namespace MC
open PySem PySem.Spec PyProof.Rows L2 MB HW HM PI
theorem lt_le {a b : Str} (h : tlt a b) : leS a b = true := (leS_iff a b).mpr fun z => tlt_irrefl a (tlt_trans h z)
theorem le_lt {a b : Str} (h : leS a b = true) (n : a ≠ b) : tlt a b := by
  rcases tlt_tri a b with q | q | q
  · exact q
  · exact absurd q n
  · exact absurd q ((leS_iff a b).mp h)
theorem up_uniq {xs ys : List (Str × Int)} (hx : (xs.map (·.1)).Pairwise tlt) (hy : (ys.map (·.1)).Pairwise tlt) (h : ∀ p, p ∈ xs ↔ p ∈ ys) : xs = ys := by
  have nd : ∀ {zs : List (Str × Int)}, (zs.map (·.1)).Pairwise tlt → zs.Nodup := fun {zs} hz => (List.pairwise_map.mp hz).imp fun {a b} q e => by
    rw [e] at q
    exact tlt_irrefl _ q
  exact ((List.perm_ext_iff_of_nodup (nd hx) (nd hy)).mpr h).eq_of_pairwise (le := fun p q : Str × Int => tlt p.1 q.1) (fun a b _ _ q1 q2 => absurd (tlt_trans q1 q2) (tlt_irrefl _)) (List.pairwise_map.mp hx) (List.pairwise_map.mp hy)
theorem look_uniq {B : Bk} {n : Int} {xs ys : List (Str × Int)} (hx : LookIs B n xs) (hy : LookIs B n ys) : xs = ys := up_uniq hx.up hy.up fun p => (hx.mem p.1 p.2).trans (hy.mem p.1 p.2).symm
theorem words_uniq {us xs ys : List (Str × Int)} (hx : WordsIs us xs) (hy : WordsIs us ys) : xs = ys := up_uniq hx.up hy.up fun p => (hx.mem p.1 p.2).trans (hy.mem p.1 p.2).symm
/-! ### the level comes from a word -/
theorem lvlD_mem (l : Str) : ∀ cs : List Cu, lvlD cs l ≠ 0 → ∃ c ∈ cs, (wlook c.ws l).isSome = true
  | [], h => absurd rfl h
  | c :: r, h => by
    cases q : wlook c.ws l with
    | some v => exact ⟨c, List.mem_cons_self, by rw [q]; rfl⟩
    | none =>
      unfold lvlD at h
      rw [q] at h
      by_cases f : c.fr = true
      · simp only [f] at h
        exact absurd rfl h
      · simp only [f] at h
        obtain ⟨d, hd, k⟩ := lvlD_mem l r h
        exact ⟨d, List.mem_cons_of_mem _ hd, k⟩
theorem wlook_mem {ws : List (Str × Int)} {l : Str} {v : Int} (h : wlook ws l = some v) : (l, v) ∈ ws := by
  unfold wlook at h
  obtain ⟨p, hp, rfl⟩ := Option.map_eq_some_iff.mp h
  have e := of_decide_eq_true (List.find?_some (p := fun p : Str × Int => decide (p.1 = l)) hp)
  rw [← e]
  exact List.mem_of_find?_eq_some hp
theorem wlook_of {ws : List (Str × Int)} (nd : (ws.map (·.1)).Nodup) {p : Str × Int} (h : p ∈ ws) : wlook ws p.1 = some p.2 := by
  unfold wlook
  rw [Option.map_eq_some_iff]
  cases q : ws.find? fun x => decide (x.1 = p.1) with
  | none => exact absurd (decide_eq_true rfl) (List.find?_eq_none.mp q p h)
  | some x =>
    have e := of_decide_eq_true (List.find?_some (p := fun x : Str × Int => decide (x.1 = p.1)) q)
    exact ⟨x, rfl, by rw [nodup_at nd (List.mem_of_find?_eq_some q) h e]⟩
theorem lvl_mem {B : Bk} {n : Int} {l : Str} (h : lvl B n l ≠ 0) : ∃ c ∈ B, ∃ p ∈ c.ws, p.1 = l := by
  obtain ⟨c, hc, k⟩ := lvlD_mem l _ h
  obtain ⟨v, hv⟩ := Option.isSome_iff_exists.mp k
  exact ⟨c, (desc_perm B).mem_iff.mp ((List.mem_filter.mp hc).1), _, wlook_mem hv, rfl⟩
/-! ### the law's look is that look -/
theorem look_is {B : Bk} {n : Int} {ls : List Str} (cov : ∀ c ∈ B, ∀ p ∈ c.ws, p.1 ∈ ls) : LookIs B n (lookOf B n ls) := by
  have go : ∀ (r : List Str) (acc : List (Str × Int)), r.Pairwise (fun a b => leS a b = true) → (acc.map (·.1)).Pairwise tlt → (∀ p ∈ acc, p.2 = lvl B n p.1 ∧ 0 < p.2) → (∀ p ∈ acc, ∀ l ∈ r, leS p.1 l = true) →
      let out := r.foldl (fun acc l => if 0 < lvl B n l then wput acc l (lvl B n l) else acc) acc
      (out.map (·.1)).Pairwise tlt ∧ (∀ p ∈ out, p.2 = lvl B n p.1 ∧ 0 < p.2) ∧ (∀ p ∈ acc, p ∈ out) ∧ ∀ l ∈ r, 0 < lvl B n l → (l, lvl B n l) ∈ out := by
    intro r
    induction r with
    | nil => exact fun acc _ h1 h2 _ => ⟨h1, h2, fun _ h => h, fun l h => absurd h List.not_mem_nil⟩
    | cons l r ih =>
      intro acc hs h1 h2 h3
      have hs' := List.pairwise_cons.mp hs
      by_cases hp : 0 < lvl B n l
      · have st : ∃ acc2, wput acc l (lvl B n l) = acc2 ∧ (acc2.map (·.1)).Pairwise tlt ∧ (∀ p ∈ acc2, p.2 = lvl B n p.1 ∧ 0 < p.2) ∧ (∀ p ∈ acc2, ∀ k ∈ r, leS p.1 k = true) ∧ (∀ p ∈ acc, p ∈ acc2) ∧ (l, lvl B n l) ∈ acc2 := by
          by_cases ha : (acc.any fun p => decide (p.1 = l)) = true
          · obtain ⟨x, hx, ex⟩ := List.any_eq_true.mp ha
            have ex := of_decide_eq_true ex
            refine ⟨acc, ?_, h1, h2, fun p hp k hk => h3 p hp k (List.mem_cons_of_mem _ hk), fun _ h => h, ?_⟩
            · unfold wput
              rw [if_pos ha]
              conv => rhs; rw [← List.map_id acc]
              refine List.map_congr_left fun p hp => ?_
              by_cases e : p.1 = l
              · rw [if_pos e, ← e, ← (h2 p hp).1]
                rfl
              · rw [if_neg e]
                rfl
            · have := (h2 x hx).1
              rw [← ex, ← this]
              exact hx
          · refine ⟨acc ++ [(l, lvl B n l)], ?_, ?_, fun p hp => ?_, fun p hp k hk => ?_, fun p h => List.mem_append_left _ h, List.mem_append_right _ List.mem_cons_self⟩
            · unfold wput
              rw [if_neg ha]
            · rw [List.map_append]
              refine List.pairwise_append.mpr ⟨h1, List.pairwise_singleton _ _, fun a ha2 b hb => ?_⟩
              have hb : b ∈ [l] := hb
              rw [List.mem_singleton.mp hb]
              obtain ⟨p, hp, rfl⟩ := List.mem_map.mp ha2
              exact le_lt (h3 p hp l List.mem_cons_self) fun e => ha (List.any_eq_true.mpr ⟨p, hp, decide_eq_true e⟩)
            · rcases List.mem_append.mp hp with q | q
              · exact h2 p q
              · rw [List.mem_singleton.mp q]
                exact ⟨rfl, by assumption⟩
            · rcases List.mem_append.mp hp with q | q
              · exact h3 p q k (List.mem_cons_of_mem _ hk)
              · rw [List.mem_singleton.mp q]
                exact hs'.1 k hk
        obtain ⟨acc2, e, a1, a2, a3, a4, a5⟩ := st
        have := ih acc2 hs'.2 a1 a2 a3
        show ((r.foldl _ (if 0 < lvl B n l then wput acc l (lvl B n l) else acc)).map (·.1)).Pairwise tlt ∧ _
        simp only [List.foldl_cons, if_pos hp, e]
        refine ⟨this.1, this.2.1, fun p h => this.2.2.1 p (a4 p h), fun k hk hk0 => ?_⟩
        rcases List.mem_cons.mp hk with rfl | hk
        · exact this.2.2.1 _ a5
        · exact this.2.2.2 k hk hk0
      · have := ih acc hs'.2 h1 h2 fun p hp k hk => h3 p hp k (List.mem_cons_of_mem _ hk)
        simp only [List.foldl_cons, if_neg hp]
        refine ⟨this.1, this.2.1, this.2.2.1, fun k hk hk0 => ?_⟩
        rcases List.mem_cons.mp hk with rfl | hk
        · exact absurd hk0 hp
        · exact this.2.2.2 k hk hk0
  obtain ⟨h1, h2, _, h4⟩ := go (sortS ls) [] (sortS_sorted ls) List.Pairwise.nil (fun p h => absurd h List.not_mem_nil) (fun p h => absurd h List.not_mem_nil)
  refine ⟨h1, fun l v => ⟨fun h => h2 _ h, fun ⟨e, h⟩ => ?_⟩⟩
  subst e
  obtain ⟨c, hc, p, hp, rfl⟩ := lvl_mem (B := B) (n := n) (l := l) (by omega)
  exact h4 _ ((sortS_perm ls).mem_iff.mpr (cov c hc p hp)) h
/-! ### words by the alphabet -/
def sortW (us : List (Str × Int)) : List (Str × Int) := (sortS (us.map (·.1))).map fun l => (l, (wlook us l).getD 0)
theorem words_is {us : List (Str × Int)} (nd : (us.map (·.1)).Nodup) : WordsIs us (sortW us) := by
  have pm := sortS_perm (us.map (·.1))
  refine ⟨?_, fun l v => ?_⟩
  · unfold sortW
    rw [List.map_map]
    have e : ((fun p : Str × Int => p.1) ∘ fun l => (l, (wlook us l).getD 0)) = id := rfl
    rw [e, List.map_id]
    have nd2 : (sortS (us.map (·.1))).Nodup := pm.nodup_iff.mpr nd
    exact (sortS_sorted (us.map (·.1))).imp₂ (fun {a b} h n => le_lt h n) nd2
  · unfold sortW
    constructor
    · intro h
      obtain ⟨k, hk, e⟩ := List.mem_map.mp h
      obtain ⟨p, hp, rfl⟩ := List.mem_map.mp (pm.mem_iff.mp hk)
      have := wlook_of nd hp
      rw [this] at e
      cases e
      exact this
    · intro h
      have hm := wlook_mem h
      refine List.mem_map.mpr ⟨l, pm.mem_iff.mpr (List.mem_map.mpr ⟨_, hm, rfl⟩), ?_⟩
      rw [h]
      rfl
end MC

/-! more of what expressions come to: tuples, new dicts as arguments, sorted(words) -/
namespace HJ
open PySem PySem.Spec PyProof.Rows L2 Evl HB MB HW HI HM PI MC
section
variable {σ : L2.St} {H H' : Hp} {K : PySem.W.Frag} {x y z w v : V} {ta tb tc te tl td : TE} {t : TT}
theorem ev_lenT {p : Addr} {xs : List V} (ha : Ev ta σ H (.ref p)) (h : SqT K H p xs) : Ev (tCB (rLenS K) (tCons ta tNil)) σ H (.int (xs.length : Int)) := fun H1 e Q q =>
  ha H1 e _ fun H2 e2 => ⟨p, xs, rfl, Or.inr (ex_t (e.trans e2) h), q H2 e2⟩
/-- t[lo:hi] of a tuple -/
theorem eu_sl {tp tq : TO} {a : Addr} {xs : List V} {lo hi : Option Int} (h : Ev te σ H (.ref a)) (h1 : EvO tp σ H lo) (h2 : EvO tq σ H hi) (hx : SqT K H a xs) (hw : ¬ (HT.sIx xs.length 0 lo = 0 ∧ HT.sIx xs.length xs.length hi = xs.length)) : EvU (tSl (rSlT K) te tp tq) σ H (cutV xs lo hi) := fun H1 e Q q =>
  h H1 e _ fun H2 e2 => h1 H2 (e.trans e2) _ fun H3 e3 => h2 H3 ((e.trans e2).trans e3) _ fun H4 e4 =>
    ⟨a, xs, rfl, ex_t (((e.trans e2).trans e3).trans e4) hx, hw, fun p hp => q p _ (fresh_back ((e2.trans e3).trans e4) hp) (((e2.trans e3).trans e4).trans (Ex.new hp)) upd_same⟩
theorem ev_ixT {a : Addr} {xs : List V} {i : Int} (ha : Ev td σ H (.ref a)) (hb : Ev te σ H (.int i)) (h : SqT K H a xs) (hv : atI xs i = some v) : Ev (tOp (rIxT K) td te) σ H v := ev_op ha hb (rv_ixT h hv)
theorem ev_call_xD {R : Hp → List V → V → Prop} {E : XK} {kvs : List (Key × V)} (ha : Ev ta σ H x) (hb : EvD tb σ H kvs) (hR : ∀ d H1, Ex H H1 → H1 d = some (.dK kvs) → R H1 ([x, .ref d] ++ []) z) : Ev (tCall (spR R) [] E (tCons ta (tCons tb tNil))) σ H z := fun H1 e Q q =>
  ha H1 e _ fun H2 e2 => hb H2 (e.trans e2) _ fun d H3 _ e3 h3 => ⟨z, hR d H3 ((e.trans e2).trans e3) h3, fun H4 e4 => q H4 ((e2.trans e3).trans e4)⟩
theorem ev_call_Dx {R : Hp → List V → V → Prop} {E : XK} {kvs : List (Key × V)} (ha : EvD ta σ H kvs) (hb : Ev tb σ H x) (hR : ∀ d H1, Ex H H1 → H1 d = some (.dK kvs) → R H1 ([.ref d, x] ++ []) z) : Ev (tCall (spR R) [] E (tCons ta (tCons tb tNil))) σ H z := fun H1 e Q q =>
  ha H1 e _ fun d H2 _ e2 h2 => hb H2 (e.trans e2) _ fun H3 e3 => ⟨z, hR d H3 ((e.trans e2).trans e3) (e3 _ _ h2), fun H4 e4 => q H4 ((e2.trans e3).trans e4)⟩
theorem ev_call_DD {R : Hp → List V → V → Prop} {E : XK} {kvs lvs : List (Key × V)} (ha : EvD ta σ H kvs) (hb : EvD tb σ H lvs) (hR : ∀ d c H1, Ex H H1 → H1 d = some (.dK kvs) → H1 c = some (.dK lvs) → R H1 ([.ref d, .ref c] ++ []) z) : Ev (tCall (spR R) [] E (tCons ta (tCons tb tNil))) σ H z := fun H1 e Q q =>
  ha H1 e _ fun d H2 _ e2 h2 => hb H2 (e.trans e2) _ fun c H3 _ e3 h3 => ⟨z, hR d c H3 ((e.trans e2).trans e3) (e3 _ _ h2) h3, fun H4 e4 => q H4 ((e2.trans e3).trans e4)⟩
theorem s_retD {kvs : List (Key × V)} {D : Ends} (h : EvD te σ H kvs) (k : ∀ p H1, H p = none → Ex H H1 → H1 p = some (.dK kvs) → D.rt (.ref p) H1) : tRet te D σ H := h H (Ex.refl H) _ fun p H1 np e h1 => k p H1 np e h1
theorem s_asgD {i : Nat} {kvs : List (Key × V)} {D : Ends} (h : EvD te σ H kvs) (k : ∀ p H1, H p = none → Ex H H1 → H1 p = some (.dK kvs) → D.nx (σ.set i (some (.ref p))) H1) : tAsg te (gName i) D σ H := h H (Ex.refl H) _ fun p H1 np e h1 => k p H1 np e h1
/-- a slice of a new list -/
theorem el_slN {tl th : TO} {xs : List V} {lo hi : Option Int} (h : EvL te σ H xs) (h1 : EvO tl σ H lo) (h2 : EvO th σ H hi) : EvL (tSl (rSlL K) te tl th) σ H (cutV xs lo hi) := fun H1 e Q q =>
  h H1 e _ fun a H2 _ e2 ha => h1 H2 (e.trans e2) _ fun H3 e3 => h2 H3 ((e.trans e2).trans e3) _ fun H4 e4 =>
    ⟨a, xs, rfl, .of (e4 _ _ (e3 _ _ ha)), fun p hp => q p _ (fresh_back ((e2.trans e3).trans e4) hp) (((e2.trans e3).trans e4).trans (Ex.new hp)) upd_same⟩
/-- sorted(words) -/
theorem el_sortW {a : Addr} {ws : List (Str × Int)} (hd : Ev td σ H (.ref a)) (h : Rd H a (.dK (wkv ws))) (h64 : ws.length < 64) : EvL (tCB (fun xs H Q => ∃ (a : Addr) (kvs : List (Key × V)) (ks : List Str), xs = [.ref a] ∧ Rd H a (.dK kvs) ∧ kvs.map (·.1) = ks.map Sum.inr ∧ ks.length < 64 ∧
    ∀ ys p, ys.Perm ks → sortedS ys = true → H p = none → Q (.ref p) (upd H p (.lst (ys.map V.str)))) (tCons td tNil)) σ H ((sortS (ws.map (·.1))).map V.str) := fun H1 e Q q =>
  hd H1 e _ fun H2 e2 => ⟨a, wkv ws, ws.map (·.1), rfl, ex_rd (e.trans e2) h, keys_wkv ws, by rw [List.length_map]; exact h64, fun ys p hp hs np => by
    have eq := sort_eq hp hs
    exact q p _ (fresh_back e2 np) (e2.trans (Ex.new np)) (by rw [upd_same, eq])⟩
/-- [(.., ..) for l in new list of texts] -/
theorem ep_lcS {ls : List Str} {j : Nat} {vs : List Nat} (g : Str → Key × V) (h : EvL tl σ H (ls.map V.str)) (hz : ls.length ≤ 40000) (hw : ∀ x, wipe ((wipe σ vs).set j (some x)) vs = wipe σ vs)
    (he : ∀ l H1, Ex H H1 → l ∈ ls → EvU te ((wipe σ vs).set j (some (.str l))) H1 [kV (g l).1, (g l).2]) : EvP (tLc (iList K tl) (gName j) tYes te vs) σ H (ls.map g) := by
  have e : ls.map g = givenP (ls.map V.str).length (fun _ => true) fun i => g (ls.getD i "") := by
    have := givenP_of ("" : Str) ls (fun _ => true) g
    rw [List.filter_eq_self.mpr fun _ _ => rfl] at this
    rw [List.length_map, ← this]
  rw [e]
  refine ep_lcNL (xs := ls.map V.str) _ _ h (by rw [List.length_map]; exact hz) hw (fun _ _ _ _ _ => et_yes) fun i x H1 e1 hx _ => ?_
  rw [List.getElem?_map] at hx
  obtain ⟨l, hl, rfl⟩ := Option.map_eq_some_iff.mp hx
  rw [getD_of (Str.ofString "") hl]
  exact he l H1 e1 (List.mem_of_getElem? hl)
end
section
variable {σ : L2.St} {H H' : Hp} {K : PySem.W.Frag} {x y z w v : V} {ta tb tc te tl td : TE} {t : TT} {D : Ends} {tu tz : TS} {g : TG}
/-- for k in d: .., d locked -/
theorem q_forKeys {a : Addr} {kvs : List (Key × V)} {j : Nat} (hx : H a = some (.dK kvs)) (h : ∀ H1, Ev tl σ H1 (.ref a)) (Pv : Obj → Nat → L2.St → Hp → Prop) (h0 : ∀ o, Pv o 0 σ (upd H a (.frz o (.dK kvs)))) (hl : ∀ o i σ' H', Pv o i σ' H' → H' a = some (.frz o (.dK kvs)))
    (h1 : ∀ o σ' H1 H2, Ex H1 H2 → Pv o 0 σ' H1 → Pv o 0 σ' H2)
    (hs : ∀ o i k x σ' H', kvs[i]? = some (k, x) → Pv o i σ' H' → tu ⟨Pv o (i + 1), fun v H' => H' a = some (.frz o (.dK kvs)) ∧ D.rt v (upd H' a (.dK kvs)), fun σ' H' => H' a = some (.frz o (.dK kvs)) ∧ tz D σ' (upd H' a (.dK kvs)), Pv o (i + 1)⟩ (σ'.set j (some (kV k))) H')
    (hd : ∀ o σ' H', Pv o kvs.length σ' H' → tz D σ' (upd H' a (.dK kvs))) : tSeq (tLock (tFor (iKeys tl) (gName j) tu)) tz D σ H :=
  ⟨a, .dK kvs, hx, by simp [Mut], fun o => h _ _ (Ex.refl _) _ fun H1 e1 => ⟨a, o, rfl, .inl ⟨kvs, e1 _ _ upd_same, for_it walk_keys (Pv o) (h1 o _ _ _ e1 (h0 o)) (fun i σ H _ p => hl o i σ H p) (fun i x σ' Hb Hc hi p hy => by
    obtain ⟨rfl, k, v, hc, rfl⟩ := hy
    exact hs o i k v σ' _ hc p) fun σ' H' p => ⟨hl o _ _ _ p, hd o σ' H' p⟩⟩⟩⟩
theorem ev_get2 {a : Addr} {kvs : List (Key × V)} {k : Key} (hd : Ev td σ H (.ref a)) (hk : Ev te σ H (kV k)) (hz : Ev ta σ H z) (h : H a = some (.dK kvs)) : Ev (tDGet2 td te ta) σ H ((valV kvs k).getD z) := fun H1 e Q q =>
  hd H1 e _ fun H2 e2 => ⟨a, rfl, .inl ⟨kvs, .inl (e2 _ _ (e _ _ h))⟩, hk H2 (e.trans e2) _ fun H3 e3 => hz H3 ((e.trans e2).trans e3) _ fun H4 e4 => ⟨valV kvs k, .k (((e.trans e2).trans (e3.trans e4)) _ _ h), q H4 ((e2.trans e3).trans e4)⟩⟩
end
theorem tlt_nd {xs : List Str} (h : xs.Pairwise tlt) : xs.Nodup := h.imp fun {a b} q (z : a = b) => by
  rw [z] at q
  exact tlt_irrefl _ q
theorem nodup_len {α : Type} [DecidableEq α] : ∀ {xs ls : List α}, xs.Nodup → (∀ x ∈ xs, x ∈ ls) → xs.length ≤ ls.length
  | [], _, _, _ => Nat.zero_le _
  | x :: r, ls, nd, h => by
    have nd := List.nodup_cons.mp nd
    have hx := h x List.mem_cons_self
    have := nodup_len (ls := ls.erase x) nd.2 fun y hy => (List.mem_erase_of_ne fun z => nd.1 (by rw [← z]; exact hy)).mpr (h y (List.mem_cons_of_mem _ hy))
    rw [List.length_erase_of_mem hx] at this
    have := List.length_pos_of_mem hx
    rw [List.length_cons]
    omega
/-! ### d == {} -/
def rEq0 : R2 := fun x y H Q => ∃ a b kvs, x = .ref a ∧ y = .ref b ∧ H a = some (.dK kvs) ∧ H b = some (.dK []) ∧ Q (.bl (decide (kvs = []))) H
theorem op_eq0 {X : Cx} (hu : X.A.units + 1 < cLine) : OpR X (compareOp .Eq) rEq0 := by
  intro pins s σ H x y v u Q I rx ry h
  obtain ⟨a, b, kvs, rfl, rfl, ea, eb, q⟩ := h
  obtain rfl : v = Value.ref a := rx
  obtain rfl : u = Value.ref b := ry
  obtain ⟨_, ya, va, ra, da⟩ := (show ObjOk X.prog X.w H s.heap a (.dK kvs) from I.hok a _ ea)
  obtain ⟨_, yb, vb, rb, db⟩ := (show ObjOk X.prog X.w H s.heap b (.dK []) from I.hok b _ eb)
  have la : kvs.length = va.length := ra.length
  have lb : 0 = vb.length := rb.length
  refine PySem.W.keq_eq (knd := mixKind X.prog X.w) (r := true) ya yb da db (Nat.lt_of_succ_lt hu) (fun e => hits_all rb ra fun p hp => absurd (List.length_pos_of_mem hp) (by omega)) (fin_bl I q ?_)
  rw [← la, ← lb]
  cases kvs with
  | nil => rfl
  | cons p r => simp
theorem ev_eq0 {σ : L2.St} {H : Hp} {ta tb : TE} {a : Addr} {kvs : List (Key × V)} (ha : Ev ta σ H (.ref a)) (hb : EvD tb σ H []) (h : H a = some (.dK kvs)) : Ev (tOp rEq0 ta tb) σ H (.bl (decide (kvs = []))) := fun H1 e Q q =>
  ha H1 e _ fun H2 e2 => hb H2 (e.trans e2) _ fun b H3 _ e3 h3 => ⟨a, b, kvs, rfl, rfl, e3 _ _ (e2 _ _ (e _ _ h)), h3, q H3 (e2.trans e3)⟩
/-! ### while the model is locked -/
theorem _root_.HW.MAt.lock {H : Hp} {m : Addr} {R : List CRow} (h : MAt H m R) (hd : H m = some (.dK (mkv R))) (o : Obj) : MAt (upd H m (.frz o (.dK (mkv R)))) m R := by
  refine ⟨.inr ⟨o, upd_same⟩, fun r hr => ?_, h.nd, h.ndl, h.ndw, h.mw, h.wn⟩
  obtain ⟨q1, q2⟩ := h.row r hr
  exact ⟨by rw [upd_ne fun z => (by rw [z, hd] at q1; cases q1)]; exact q1, by rw [upd_ne (h.mw r hr)]; exact q2⟩
theorem sql_upd {K : PySem.W.Frag} {H : Hp} {a m : Addr} {xs : List V} {kvs : List (Key × V)} {u : HO} (h : SqL K H a xs) (hd : H m = some (.dK kvs)) : SqL K (upd H m u) a xs := by
  rcases h with h | h
  · refine .inl ?_
    rcases h with h | ⟨o, h⟩
    · exact .inl (by rw [upd_ne fun z => (by rw [z, hd] at h; cases h)]; exact h)
    · exact .inr ⟨o, by rw [upd_ne fun z => (by rw [z, hd] at h; cases h)]; exact h⟩
  · exact .inr h
theorem _root_.PI.Pl.off {P : Program} {w : World} {K : PySem.W.Frag} {mg : Str → Option Value} {base : Heap} {C : Addr} {At : AtT} {H : Hp} {p m : Addr} {ls : List Str} {B : Bk} {fp : Addr → Prop} (L : Pl P w K mg base C At) (h : At H p ls B fp) (nm : ¬ (fp m ∨ At.tb m)) (u : HO) : At (upd H m u) p ls B fp :=
  L.frame h fun b v hb hv => by
    rw [upd_ne fun z => nm (by rw [← z]; exact hb)]
    exact hv
theorem mkv_at {R : List CRow} {i : Nat} {k : Key} {x : V} (h : (mkv R)[i]? = some (k, x)) : ∃ r ∈ R, k = .inl r.c.n ∧ x = .ref r.la := by
  unfold mkv at h
  rw [List.getElem?_map] at h
  obtain ⟨r, hr, e⟩ := Option.map_eq_some_iff.mp h
  cases e
  exact ⟨r, List.mem_of_getElem? hr, rfl, rfl⟩
/-! ### levels, looks -/
theorem lvlD_nn {l : Str} : ∀ {cs : List Cu}, (∀ c ∈ cs, GoodC c) → 0 ≤ lvlD cs l
  | [], _ => Int.le_refl 0
  | c :: r, h => by
    unfold lvlD
    cases q : wlook c.ws l with
    | some v => exact ((h c List.mem_cons_self).lv _ (wlook_mem q)).1
    | none =>
      show 0 ≤ if c.fr = true then 0 else lvlD r l
      by_cases f : c.fr = true
      · rw [if_pos f]
        decide
      · rw [if_neg f]
        exact lvlD_nn fun d hd => h d (List.mem_cons_of_mem _ hd)
theorem lvl_nn {ls : List Str} {B : Bk} (g : Good ls B) (n : Int) (l : Str) : 0 ≤ lvl B n l := lvlD_nn fun c hc => g.cue c ((desc_perm B).mem_iff.mp (List.mem_filter.mp hc).1)
theorem look_get {ls : List Str} {B : Bk} {n : Int} {ws : List (Str × Int)} (g : Good ls B) (h : LookIs B n ws) (l : Str) : (valV (wkv ws) (.inr l)).getD (.int 0) = .int (lvl B n l) := by
  rw [val_wkv]
  cases q : wlook ws l with
  | some v => rw [((h.mem l v).mp (wlook_mem q)).1]; rfl
  | none =>
    have nn := lvl_nn g n l
    by_cases p : 0 < lvl B n l
    · have hm := (h.mem l _).mpr ⟨rfl, p⟩
      have := wlook_of (tlt_nd h.up) hm
      rw [q] at this
      cases this
    · show V.int 0 = V.int _
      rw [show lvl B n l = 0 by omega]
theorem look_ok {ls : List Str} {B : Bk} {n : Int} {ws : List (Str × Int)} (g : Good ls B) (h : LookIs B n ws) : ∀ p ∈ ws, LampOk p.1 := fun p hp => by
  obtain ⟨e, q⟩ := (h.mem p.1 p.2).mp hp
  obtain ⟨c, hc, x, hx, ex⟩ := lvl_mem (B := B) (n := n) (l := p.1) (by omega)
  rw [← ex]
  exact g.ok _ (g.lam c hc x hx)
theorem look_few {ls : List Str} {B : Bk} {n : Int} {ws : List (Str × Int)} (g : Good ls B) (h : LookIs B n ws) : ws.length < 64 := by
  have := nodup_len (xs := ws.map (·.1)) (ls := ls) (tlt_nd h.up) fun x hx => by
    obtain ⟨p, hp, rfl⟩ := List.mem_map.mp hx
    obtain ⟨e, q⟩ := (h.mem p.1 p.2).mp hp
    obtain ⟨c, hc, x, hx, ex⟩ := lvl_mem (B := B) (n := n) (l := p.1) (by omega)
    rw [← ex]
    exact g.lam c hc x hx
  rw [List.length_map] at this
  have := g.few
  omega
theorem wkv_sortW (us : List (Str × Int)) : wkv (sortW us) = (sortS (us.map (·.1))).map fun l => ((.inr l, .int ((wlook us l).getD 0)) : Key × V) := by
  unfold wkv sortW
  rw [List.map_map]
  rfl
theorem up_nodup {ws : List (Str × Int)} (h : (ws.map (·.1)).Pairwise tlt) : ((wkv ws).map (·.1)).Nodup := by
  rw [keys_wkv]
  exact List.pairwise_map.mpr (h.imp fun {a b} q z => by
    rw [Sum.inr.inj z] at q
    exact tlt_irrefl _ q)
theorem sortW_len (us : List (Str × Int)) : (sortW us).length = us.length := by
  unfold sortW
  rw [List.length_map, (sortS_perm _).length_eq, List.length_map]
/-- how many words a cue of such a book tells -/
theorem words_few {ls : List Str} {B : Bk} {c : Cu} (g : Good ls B) (hc : c ∈ B) : c.ws.length < 64 := by
  have := nodup_len (g.cue c hc).nd fun x hx => by
    obtain ⟨p, hp, rfl⟩ := List.mem_map.mp hx
    exact g.lam c hc p hp
  rw [List.length_map] at this
  have := g.few
  omega
theorem lamp_strOk {s : Str} (h : LampOk s) : PyData.strOk s = true := by
  unfold PyData.strOk
  rw [Array.all_eq_true]
  intro i hi
  have := h.low s.cps[i] (by rw [Array.mem_toList_iff]; exact Array.getElem_mem hi)
  exact decide_eq_true (by omega)
end HJ

/-! a comprehension whose items are known by a word of each; pairs of a number and a new dict -/
namespace HG
open PySem PySem.Spec PyProof.Rows L2 Evl HB MB HW HI HM PI MC HJ
section
variable {σ : L2.St} {H H' : Hp} {K : PySem.W.Frag} {x y z w v : V} {ta tb tc te tl td : TE} {t : TT}
theorem paired_mono {α β : Type} {F F2 : α → β → Prop} : ∀ {xs : List α} {ys : List β}, Paired F xs ys → (∀ a b, F a b → F2 a b) → Paired F2 xs ys
  | _, _, .nil, _ => .nil
  | _, _, .cons h r, k => .cons (k _ _ h) (paired_mono r k)
theorem paired_snoc {α β : Type} {F : α → β → Prop} {a : α} {b : β} : ∀ {xs : List α} {ys : List β}, Paired F xs ys → F a b → Paired F (xs ++ [a]) (ys ++ [b])
  | _, _, .nil, k => .cons k .nil
  | _, _, .cons h r, k => .cons h (paired_snoc r k)
theorem paired_len {α β : Type} {F : α → β → Prop} : ∀ {xs : List α} {ys : List β}, Paired F xs ys → xs.length = ys.length
  | _, _, .nil => rfl
  | _, _, .cons _ r => congrArg (· + 1) (paired_len r)
/-- [.. for x in xs if ..], what each item is -/
theorem el_lcG {α : Type} {xs : List α} {a : Addr} {j : Nat} {vs : List Nat} (c : α → V) (p : α → Bool) (G : α → V → Hp → Prop) (hE : ∀ x v H H', Ex H H' → G x v H → G x v H') (hU : ∀ x v H D us ws, H D = some (.lst us) → G x v H → G x v (upd H D (.lst ws)))
    (h : Ev tl σ H (.ref a)) (hx : SqL K H a (xs.map c)) (hz : xs.length ≤ 40000) (hw : ∀ x, wipe ((wipe σ vs).set j (some x)) vs = wipe σ vs)
    (ht : ∀ x H1, Ex H H1 → x ∈ xs → EvT t ((wipe σ vs).set j (some (c x))) H1 (p x)) (he : ∀ x H1, Ex H H1 → x ∈ xs → p x = true → ∀ Q : VK, (∀ v H2, Ex H1 H2 → G x v H2 → Q v H2) → te ((wipe σ vs).set j (some (c x))) H1 Q) :
    ∀ H1, Ex H H1 → ∀ Q : VK, (∀ D ws H2, H1 D = none → Ex H1 H2 → H2 D = some (.lst ws) → Paired (fun v x => G x v H2) ws (xs.filter p) → Q (.ref D) H2) → tLc (iList K tl) (gName j) t te vs σ H1 Q := fun H0 e Q q => h H0 e _ fun H1 e1 => ⟨a, rfl, ⟨xs.map c, ex_l (e.trans e1) hx⟩, fun D hD =>
  lc_list (xs := xs.map c) (fun i H' => Ex H1 H' ∧ ∃ ws, H' D = some (.lst ws) ∧ Paired (fun v x => G x v H') ws ((xs.take i).filter p)) ⟨Ex.new hD, [], upd_same, .nil⟩ (fun i H' _ p => ex_l ((e.trans e1).trans p.1) hx) (fun i x H' hi ⟨ex, ws, hD2, pr⟩ => ⟨hw x, by
    rw [List.getElem?_map] at hi
    obtain ⟨y, hy, rfl⟩ := Option.map_eq_some_iff.mp hi
    have hm := List.mem_of_getElem? hy
    have il : i < xs.length := (List.getElem?_eq_some_iff.mp hy).1
    have wl : ws.length ≤ i := by
      rw [paired_len pr]
      refine Nat.le_trans (List.length_filter_le _ _) ?_
      rw [List.length_take]
      exact Nat.min_le_left _ _
    refine ht y H' ((e.trans e1).trans ex) hm H' (Ex.refl H') _ fun H3 e3 => ?_
    cases hp : p y with
    | true =>
      show te _ H3 fun v H4 => ∃ acc, H4 D = some (.lst acc) ∧ acc.length < sizeLine ∧ _
      refine he y H3 ((e.trans e1).trans (ex.trans e3)) hm hp _ fun v H4 e4 g => ?_
      have hD4 := e4 _ _ (e3 _ _ hD2)
      refine ⟨ws, hD4, sz_lt (by omega), Ex.mut (ex.trans (e3.trans e4)) hD, ws ++ [v], upd_same, ?_⟩
      rw [List.take_add_one, hy, List.filter_append, Option.toList_some, List.filter_cons, if_pos hp, List.filter_nil]
      exact paired_snoc (paired_mono pr fun v x g => hU x v H4 D _ _ hD4 (hE x v _ _ (e3.trans e4) g)) (hU y v H4 D _ _ hD4 g)
    | false =>
      show Ex H1 H3 ∧ _
      refine ⟨ex.trans e3, ws, e3 _ _ hD2, ?_⟩
      rw [List.take_add_one, hy, List.filter_append, Option.toList_some, List.filter_cons, if_neg (by rw [hp]; decide), List.filter_nil, List.append_nil]
      exact paired_mono pr fun v x g => hE x v _ _ e3 g⟩) (fun H' ⟨ex, ws, hD2, pr⟩ => q D ws H' (fresh_back e1 hD) (e1.trans ex) hD2 (by
    rw [List.length_map, List.take_length] at pr
    exact pr))⟩
theorem q_lcG {α : Type} {xs : List α} {a : Addr} {i j : Nat} {vs : List Nat} {Dn : Ends} {tz : TS} (c : α → V) (p : α → Bool) (G : α → V → Hp → Prop) (hE : ∀ x v H H', Ex H H' → G x v H → G x v H') (hU : ∀ x v H D us ws, H D = some (.lst us) → G x v H → G x v (upd H D (.lst ws)))
    (h : Ev tl σ H (.ref a)) (hx : SqL K H a (xs.map c)) (hz : xs.length ≤ 40000) (hw : ∀ x, wipe ((wipe σ vs).set j (some x)) vs = wipe σ vs)
    (ht : ∀ x H1, Ex H H1 → x ∈ xs → EvT t ((wipe σ vs).set j (some (c x))) H1 (p x)) (he : ∀ x H1, Ex H H1 → x ∈ xs → p x = true → ∀ Q : VK, (∀ v H2, Ex H1 H2 → G x v H2 → Q v H2) → te ((wipe σ vs).set j (some (c x))) H1 Q)
    (k : ∀ D ws H2, H D = none → Ex H H2 → H2 D = some (.lst ws) → Paired (fun v x => G x v H2) ws (xs.filter p) → tz Dn (σ.set i (some (.ref D))) H2) : tSeq (tAsg (tLc (iList K tl) (gName j) t te vs) (gName i)) tz Dn σ H :=
  el_lcG c p G hE hU h hx hz hw ht he H (Ex.refl H) (fun v H' => tz Dn (σ.set i (some v)) H') k
/-- a pair of a number and a dict, both new since H0 -/
def Gp (H0 : Hp) (f : Int → List (Str × Int)) (k : Int) (v : V) (H : Hp) : Prop := ∃ t d, v = .ref t ∧ H0 t = none ∧ H0 d = none ∧ H t = some (.tup [.int k, .ref d]) ∧ H d = some (.dK (wkv (f k)))
theorem Gp.ex {H0 : Hp} {f : Int → List (Str × Int)} {k : Int} {v : V} {H H' : Hp} (e : Ex H H') (h : Gp H0 f k v H) : Gp H0 f k v H' := by
  obtain ⟨t, d, h1, h2, h3, h4, h5⟩ := h
  exact ⟨t, d, h1, h2, h3, e _ _ h4, e _ _ h5⟩
theorem Gp.up {H0 : Hp} {f : Int → List (Str × Int)} {k : Int} {v : V} {H : Hp} {D : Addr} {us ws : List V} (hD : H D = some (.lst us)) (h : Gp H0 f k v H) : Gp H0 f k v (upd H D (.lst ws)) := by
  obtain ⟨t, d, h1, h2, h3, h4, h5⟩ := h
  exact ⟨t, d, h1, h2, h3, by rw [upd_ne fun z => (by rw [z, hD] at h4; cases h4)]; exact h4, by rw [upd_ne fun z => (by rw [z, hD] at h5; cases h5)]; exact h5⟩
/-- (k, d), d a new dict -/
theorem te_pair {H0 : Hp} {f : Int → List (Str × Int)} {k : Int} (h1 : Ev ta σ H (.int k)) (h2 : EvD tb σ H (wkv (f k))) (e0 : Ex H0 H) {Q : VK} (q : ∀ v H2, Ex H H2 → Gp H0 f k v H2 → Q v H2) : tTup (tCons ta (tCons tb tNil)) σ H Q :=
  h1 H (Ex.refl H) _ fun H1 e1 => h2 H1 e1 _ fun d H2 nd e2 hd => ⟨by show 2 ≤ sizeLine; decide, fun t nt => by
    have ne : d ≠ t := fun z => by rw [z, nt] at hd; cases hd
    have e3 : Ex H (upd H2 t (.tup [.int k, .ref d])) := (e1.trans e2).trans (Ex.new nt)
    exact q _ _ e3 ⟨t, d, rfl, fresh_back (e0.trans (e1.trans e2)) nt, fresh_back (e0.trans e1) nd, upd_same, by rw [upd_ne ne]; exact hd⟩⟩
/-- [x for x, y in pairs if ..], none of them taken -/
theorem el_lcPairs0 {ws : List V} {a : Addr} {j1 j2 : Nat} {vs : List Nat} (h : Ev tl σ H (.ref a)) (hx : H a = some (.lst ws)) (hw : ∀ x y, wipe (((wipe σ vs).set j1 (some x)).set j2 (some y)) vs = wipe σ vs)
    (hp : ∀ v ∈ ws, ∃ q x y, v = .ref q ∧ H q = some (.tup [x, y]) ∧ ∀ H1, Ex H H1 → EvT t (((wipe σ vs).set j1 (some x)).set j2 (some y)) H1 false) : EvL (tLc (iList K tl) (gTup K 2 (gCons (gName j1) (gCons (gName j2) gNil))) t te vs) σ H [] := fun H0 e Q q => h H0 e _ fun H1 e1 => ⟨a, rfl, ⟨ws, .of (e1 _ _ (e _ _ hx))⟩, fun D hD =>
  lc_list (xs := ws) (fun i H' => Ex H1 H' ∧ H' D = some (.lst [])) ⟨Ex.new hD, upd_same⟩ (fun i H' _ p => .of (p.1 _ _ (e1 _ _ (e _ _ hx)))) (fun i v H' hi ⟨ex, hD2⟩ => by
    obtain ⟨t, x, y, rfl, ht, hf⟩ := hp v (List.mem_of_getElem? hi)
    have ee := e.trans (e1.trans ex)
    refine ⟨t, [x, y], rfl, .of (ee _ _ ht), rfl, _, _, rfl, _, _, rfl, rfl, hw x y, ?_⟩
    refine hf H' ee H' (Ex.refl H') _ fun H3 e3 => ?_
    exact ⟨ex.trans e3, e3 _ _ hD2⟩) (fun H' ⟨ex, hD2⟩ => q D H' (fresh_back e1 hD) (e1.trans ex) hD2)⟩
/-- [(k, d[k]) for k in d if k != l] -/
theorem ep_words {ws : List (Str × Int)} {a : Addr} {l : Str} {i j il : Nat} {vs : List Nat} (nd : (ws.map (·.1)).Nodup) (hz : ws.length ≤ 1000) (h : H a = some (.dK (wkv ws))) (hv : σ[i]? = some (some (.ref a))) (hw : ∀ x, wipe ((wipe σ vs).set j (some x)) vs = wipe σ vs)
    (h1 : ∀ x, ((wipe σ vs).set j (some x))[j]? = some (some x)) (h2 : ∀ x, ((wipe σ vs).set j (some x))[i]? = some (some (.ref a))) (h3 : ∀ x, ((wipe σ vs).set j (some x))[il]? = some (some (.str l))) :
    EvP (tLockE (tLc (iKeys (tVar i)) (gName j) (tTest (tOp rNe (tVar j) (tVar il))) (tTup (tCons (tVar j) (tCons (tDGet (tVar i) (tVar j)) tNil))) vs)) σ H (wkv (wdrop ws l)) := by
  refine ep_lock h (by simp [Mut]) fun H1 o e1 => ?_
  have e : wkv (wdrop ws l) = givenP (wkv ws).length (fun i => decide ((ws.getD i (Str.ofString "", 0)).1 ≠ l)) fun i => (.inr (ws.getD i (Str.ofString "", 0)).1, .int (ws.getD i (Str.ofString "", 0)).2) := by
    have := givenP_of ((Str.ofString "", 0) : Str × Int) ws (fun p => decide (p.1 ≠ l)) fun p => ((.inr p.1, .int p.2) : Key × V)
    rw [wkv_len, this]
    rfl
  rw [e]
  have at_ : ∀ {i : Nat} {k : Key} {x : V}, (wkv ws)[i]? = some (k, x) → ∃ p ∈ ws, ws.getD i (Str.ofString "", 0) = p ∧ k = .inr p.1 := fun {i k x} hx => by
    have hx : (ws.map fun p : Str × Int => ((.inr p.1, .int p.2) : Key × V))[i]? = some (k, x) := hx
    rw [List.getElem?_map] at hx
    obtain ⟨p, hp, ep⟩ := Option.map_eq_some_iff.mp hx
    cases ep
    exact ⟨p, List.mem_of_getElem? hp, getD_of _ hp, rfl⟩
  refine ep_lcKeys _ _ (ev_var hv) upd_same (by rw [wkv_len]; omega) hw (fun i k x H2 e2 hx => ?_) fun i k x H2 e2 hx _ => ?_
  · obtain ⟨p, hp, ep, rfl⟩ := at_ hx
    rw [ep]
    refine et_is (et_test (ev_op (ev_var (h1 _)) (ev_var (h3 _)) (rv_ne rfl))) ?_
    show (!decide (V.str p.1 = V.str l)) = decide (p.1 ≠ l)
    by_cases z : p.1 = l
    · simp [z]
    · simp [z]
  · obtain ⟨p, hp, ep, rfl⟩ := at_ hx
    rw [ep]
    refine eu_tup (ea_cons (ev_var (h1 _)) (ea_cons (ev_dget (k := .inr p.1) (ev_var (h2 _)) (ev_var (h1 _)) (.inr ⟨o, e2 _ _ upd_same⟩) ?_) ea_nil)) (by show 2 ≤ 100000; decide)
    rw [val_wkv, wlook_of nd hp]
    rfl
/-- list(d.items()), d a new dict of words -/
theorem ev_itemsD {ws : List (Str × Int)} (ha : EvD ta σ H (wkv ws)) : EvI K (LiI.tListItems ta) σ H ws := fun H1 e Q q =>
  ha H1 e _ fun a H2 _ e2 h => ⟨a, wkv ws, rfl, h, fun H3 p ts k1 k2 _ _ k5 k6 => q p H3 (fresh_back e2 k2) (e2.trans k1) (.lst (.of k5) (dp_pairs k6))⟩
end
theorem paired_all {α β : Type} {F : α → β → Prop} : ∀ {xs : List α} {ys : List β}, Paired F xs ys → ∀ a ∈ xs, ∃ b ∈ ys, F a b
  | _, _, .nil, a, h => absurd h List.not_mem_nil
  | _, _, .cons h r, a, hm => by
    rcases List.mem_cons.mp hm with e | hm
    · exact ⟨_, List.mem_cons_self, by rw [e]; exact h⟩
    · obtain ⟨b, hb, f⟩ := paired_all r a hm
      exact ⟨b, List.mem_cons_of_mem _ hb, f⟩
theorem lvlD_le {l : Str} : ∀ {cs : List Cu}, (∀ c ∈ cs, GoodC c) → lvlD cs l ≤ 100
  | [], _ => by show (0 : Int) ≤ 100; decide
  | c :: r, h => by
    unfold lvlD
    cases q : wlook c.ws l with
    | some v => exact ((h c List.mem_cons_self).lv _ (wlook_mem q)).2
    | none =>
      show (if c.fr = true then 0 else lvlD r l) ≤ 100
      by_cases f : c.fr = true
      · rw [if_pos f]
        decide
      · rw [if_neg f]
        exact lvlD_le fun d hd => h d (List.mem_cons_of_mem _ hd)
theorem lvl_le {ls : List Str} {B : Bk} (g : Good ls B) (n : Int) (l : Str) : lvl B n l ≤ 100 := lvlD_le fun c hc => g.cue c ((desc_perm B).mem_iff.mp (List.mem_filter.mp hc).1)
/-- two looks but for one lamp -/
theorem look_but {B B' : Bk} {n : Int} {ws us : List (Str × Int)} {l : Str} (h : LookIs B n ws) (h' : LookIs B' n us) (e : ∀ j, j ≠ l → lvl B' n j = lvl B n j) : wdrop us l = wdrop ws l := by
  refine up_uniq (h'.up.sublist (List.filter_sublist.map _)) (h.up.sublist (List.filter_sublist.map _)) fun p => ?_
  unfold wdrop
  rw [List.mem_filter, List.mem_filter]
  refine and_congr_left fun hp => ?_
  have := of_decide_eq_true hp
  have a := h'.mem p.1 p.2
  have b := h.mem p.1 p.2
  rw [e p.1 this] at a
  exact a.trans b.symm
/-- a look is told by the levels -/
theorem look_eqv {B B' : Bk} {n : Int} {ws : List (Str × Int)} (h : LookIs B n ws) (e : ∀ l, lvl B' n l = lvl B n l) : LookIs B' n ws := ⟨h.up, fun l v => by rw [e]; exact h.mem l v⟩
theorem lvl_zero {B : Bk} {ls : List Str} {n : Int} {l : Str} (h : ∀ c ∈ B, ∀ p ∈ c.ws, p.1 ∈ ls) (hl : l ∉ ls) : lvl B n l = 0 := by
  by_cases z : lvl B n l = 0
  · exact z
  · obtain ⟨c, hc, p, hp, rfl⟩ := lvl_mem z
    exact absurd (h c hc p hp) hl
end HG

/-! a play and the law's model of it, side by side -/
namespace PS
open PySem PySem.Spec PyProof.Rows L2 Evl HB MB HW HI HM PI MC HJ
/-- p is a play of the book B at the places fp; m is the model R; they have no place in common -/
structure St (At : AtT) (H : Hp) (p m : Addr) (ls : List Str) (R : List CRow) (B : Bk) (fp : Addr → Prop) : Prop where
  mat : MAt H m R
  mdk : H m = some (.dK (mkv R))
  pl : At H p ls B fp
  dis : ∀ b, fp b ∨ At.tb b → ¬ MF m R b
/-- the places of both -/
def J (fp : Addr → Prop) (m : Addr) (R : List CRow) (b : Addr) : Prop := fp b ∨ MF m R b
theorem _root_.HW.Mv.off {fp fp2 : Addr → Prop} {H H' : Hp} (v : Mv fp H fp2 H') {a : Addr} {u : HO} (h : H a = some u) (n : ¬ fp a) : H' a = some u ∧ ¬ fp2 a :=
  ⟨v.keep a u h n, fun z => (v.grow a z).elim n fun e => by rw [e] at h; cases h⟩
section
variable {P : Program} {w : World} {K : PySem.W.Frag} {mg : Str → Option Value} {base : Heap} {C : Addr} {At : AtT} {H H' : Hp} {p m : Addr} {ls : List Str} {R R' : List CRow} {B B' : Bk} {fp fp' : Addr → Prop}
theorem St.nm (s : St At H p m ls R B fp) : ¬ (fp m ∨ At.tb m) := fun z => s.dis m z (.inl rfl)
theorem St.kn (L : Pl P w K mg base C At) (s : St At H p m ls R B fp) {b : Addr} (h : fp b ∨ At.tb b) : ∃ u, H b = some u := h.elim (fun h => L.known s.pl h) fun h => ⟨_, (L.tabs s.pl h).1⟩
theorem St.ex (L : Pl P w K mg base C At) (s : St At H p m ls R B fp) (e : Ex H H') : St At H' p m ls R B fp := ⟨s.mat.ex e, e _ _ s.mdk, L.ex s.pl e, s.dis⟩
/-- the model is changed -/
theorem St.model (L : Pl P w K mg base C At) (s : St At H p m ls R B fp) (hM : MAt H' m R') (hd : H' m = some (.dK (mkv R'))) (v : Mv (MF m R) H (MF m R') H') : St At H' p m ls R' B fp ∧ Mv (J fp m R) H (J fp m R') H' := by
  refine ⟨⟨hM, hd, L.frame s.pl fun b u hb hu => v.keep b u hu (s.dis b hb), fun b hb z => ?_⟩, fun b u hu n => v.keep b u hu fun z => n (.inr z), fun b z => ?_⟩
  · rcases v.grow b z with q | q
    · exact s.dis b hb q
    · obtain ⟨u, hu⟩ := s.kn L hb
      rw [q] at hu
      cases hu
  · rcases z with z | z
    · exact .inl (.inl z)
    · exact (v.grow b z).elim (fun q => .inl (.inr q)) .inr
/-- the play is changed -/
theorem St.play (s : St At H p m ls R B fp) (hA : At H' p ls B' fp') (v : Mv fp H fp' H') : St At H' p m ls R B' fp' ∧ Mv (J fp m R) H (J fp' m R) H' := by
  have kp : ∀ b u, MF m R b → H b = some u → H' b = some u := fun b u hb hu => v.keep b u hu fun z => s.dis b (.inl z) hb
  refine ⟨⟨s.mat.frame kp, kp _ _ (.inl rfl) s.mdk, hA, fun b hb z => ?_⟩, fun b u hu n => v.keep b u hu fun z => n (.inl z), fun b z => ?_⟩
  · rcases hb with hb | hb
    · rcases v.grow b hb with q | q
      · exact s.dis b (.inl q) z
      · obtain ⟨u, hu⟩ := s.mat.known z
        rw [q] at hu
        cases hu
    · exact s.dis b (.inr hb) z
  · rcases z with z | z
    · exact (v.grow b z).elim (fun q => .inl (.inl q)) .inr
    · exact .inl (.inr z)
/-- the other one is changed -/
theorem St.other {J0 J1 : Addr → Prop} (L : Pl P w K mg base C At) (s : St At H p m ls R B fp) (v : Mv J0 H J1 H') (ap : ∀ b, J0 b → ¬ J fp m R b ∧ ¬ At.tb b) : St At H' p m ls R B fp ∧ ∀ b, J1 b → ¬ J fp m R b ∧ ¬ At.tb b := by
  have kp : ∀ b u, J fp m R b ∨ At.tb b → H b = some u → H' b = some u := fun b u hb hu => v.keep b u hu fun z => hb.elim (ap b z).1 (ap b z).2
  refine ⟨⟨s.mat.frame fun b u hb hu => kp b u (.inl (.inr hb)) hu, kp m _ (.inl (.inr (.inl rfl))) s.mdk, L.frame s.pl fun b u hb hu => kp b u (hb.elim (fun z => .inl (.inl z)) .inr) hu, s.dis⟩, fun b hb => ?_⟩
  rcases v.grow b hb with z | z
  · exact ap b z
  · refine ⟨fun k => ?_, fun k => ?_⟩
    · rcases k with k | k
      · obtain ⟨u, hu⟩ := L.known s.pl k
        rw [z] at hu; cases hu
      · obtain ⟨u, hu⟩ := s.mat.known k
        rw [z] at hu; cases hu
    · have hu := (L.tabs s.pl k).1
      have hu : H b = some _ := hu
      rw [z] at hu; cases hu
end
section
variable {σ : L2.St} {H H' : Hp} {K : PySem.W.Frag} {x y z w v : V} {ta tb tc te tl td ty t1 t2 t3 : TE} {t : TT} {D : Ends} {tu tz : TS} {g : TG}
/-- m[n] = [up, down, fresh, {}] -/
theorem s_putRow {m : Addr} {kvs : List (Key × V)} {n : Int} (h1 : Ev t1 σ H x) (h2 : Ev t2 σ H y) (h3 : Ev t3 σ H z) (hd : Ev td σ H (.ref m)) (hk : Ev ty σ H (.int n)) (h : H m = some (.dK kvs)) (hz : kvs.length < 100000)
    (q : ∀ la wa H1, H la = none → H wa = none → Ex H H1 → H1 la = some (.lst [x, y, z, .ref wa]) → H1 wa = some (.dK []) → D.nx σ (upd H1 m (.dK (putK kvs (.inl n) (.ref la))))) :
    sDPut td ty (tLst (tCons t1 (tCons t2 (tCons t3 (tCons tDNewK tNil))))) D σ H :=
  h1 H (Ex.refl H) _ fun H1 e1 => h2 H1 e1 _ fun H2 e2 => h3 H2 (e1.trans e2) _ fun H3 e3 => fun wa nw => ⟨by show 4 ≤ sizeLine; decide, fun la nl => by
    have e03 := e1.trans (e2.trans e3)
    have nwa := fresh_back e03 nw
    have nl2 := fresh_back (Ex.new (o := HO.dK []) nw) nl
    have nla := fresh_back e03 nl2
    have ne : wa ≠ la := fun z => by rw [← z, upd_same] at nl; cases nl
    have e4 : Ex H (upd (upd H3 wa (.dK [])) la (.lst [x, y, z, .ref wa])) := (e03.trans (Ex.new nw)).trans (Ex.new nl)
    exact hd _ e4 _ fun H5 e5 => hk H5 (e4.trans e5) _ fun H6 e6 => ⟨m, _, rfl, DPut.k (k := .inl n) ((e4.trans (e5.trans e6)) _ _ h) (sz_lt hz), q la wa H6 nla nwa (e4.trans (e5.trans e6)) (e6 _ _ (e5 _ _ upd_same)) (e6 _ _ (e5 _ _ (by rw [upd_ne ne, upd_same])))⟩⟩
/-- d.pop(k), its value left -/
theorem s_dpop {a : Addr} {kvs : List (Key × V)} {k : Key} {v : V} (hd : Ev td σ H (.ref a)) (hk : Ev ty σ H (kV k)) (h : H a = some (.dK kvs)) (hv : valV kvs k = some v) (q : ∀ H1, Ex H H1 → D.nx σ (upd H1 a (.dK (dropK kvs k)))) : tDrop (tDPop1 td ty) D σ H :=
  hd H (Ex.refl H) _ fun H1 e1 => ⟨a, rfl, .inl ⟨kvs, .inl (e1 _ _ h)⟩, hk H1 e1 _ fun H2 e2 => ⟨kvs, k, v, e2 _ _ (e1 _ _ h), rfl, hv, q H2 (e1.trans e2)⟩⟩
theorem q_putRow {m : Addr} {kvs : List (Key × V)} {n : Int} (h1 : Ev t1 σ H x) (h2 : Ev t2 σ H y) (h3 : Ev t3 σ H z) (hd : Ev td σ H (.ref m)) (hk : Ev ty σ H (.int n)) (h : H m = some (.dK kvs)) (hz : kvs.length < 100000)
    (q : ∀ la wa H1, H la = none → H wa = none → Ex H H1 → H1 la = some (.lst [x, y, z, .ref wa]) → H1 wa = some (.dK []) → tz D σ (upd H1 m (.dK (putK kvs (.inl n) (.ref la))))) :
    tSeq (sDPut td ty (tLst (tCons t1 (tCons t2 (tCons t3 (tCons tDNewK tNil)))))) tz D σ H := s_putRow (D := { D with nx := tz D }) h1 h2 h3 hd hk h hz q
theorem q_dpop {a : Addr} {kvs : List (Key × V)} {k : Key} {v : V} (hd : Ev td σ H (.ref a)) (hk : Ev ty σ H (kV k)) (h : H a = some (.dK kvs)) (hv : valV kvs k = some v) (q : ∀ H1, Ex H H1 → tz D σ (upd H1 a (.dK (dropK kvs k)))) : tSeq (tDrop (tDPop1 td ty)) tz D σ H := s_dpop (D := { D with nx := tz D }) hd hk h hv q
theorem q_dput {a : Addr} {kvs : List (Key × V)} {k : Key} {tv : TE} (hv : Ev tv σ H v) (hd : Ev td σ H (.ref a)) (hk : Ev ty σ H (kV k)) (h : H a = some (.dK kvs)) (hz : kvs.length < 100000) (q : ∀ H1, Ex H H1 → tz D σ (upd H1 a (.dK (putK kvs k v)))) : tSeq (sDPut td ty tv) tz D σ H := s_dput (D := { D with nx := tz D }) hv hd hk h hz q
/-- [.. for x in xs] -/
theorem el_mapL {α : Type} {xs : List α} {a : Addr} {j : Nat} {vs : List Nat} (c g : α → V) (h : Ev tl σ H (.ref a)) (hx : SqL K H a (xs.map c)) (hz : xs.length ≤ 40000) (hw : ∀ x, wipe ((wipe σ vs).set j (some x)) vs = wipe σ vs)
    (he : ∀ x H1, Ex H H1 → x ∈ xs → Ev te ((wipe σ vs).set j (some (c x))) H1 (g x)) : EvL (tLc (iList K tl) (gName j) tYes te vs) σ H (xs.map g) := by
  have e : xs.map g = given (xs.map c).length (fun _ => true) fun i => (xs[i]?.map g).getD .non := by
    rw [given_all]
    refine List.ext_getElem? fun i => ?_
    rw [List.getElem?_map, List.getElem?_map, List.length_map]
    by_cases h : i < xs.length
    · rw [List.getElem?_range h, List.getElem?_eq_getElem h]
      show some (g xs[i]) = some ((xs[i]?.map g).getD .non)
      rw [List.getElem?_eq_getElem h]
      rfl
    · rw [List.getElem?_eq_none (by omega), List.getElem?_eq_none (by rw [List.length_range]; omega)]
      rfl
  rw [e]
  refine el_lcL _ _ h hx (by rw [List.length_map]; exact hz) hw (fun _ _ _ _ _ => et_yes) fun i x H1 e1 hx _ => ?_
  rw [List.getElem?_map] at hx
  obtain ⟨y, hy, rfl⟩ := Option.map_eq_some_iff.mp hx
  rw [hy]
  exact he y H1 e1 (List.mem_of_getElem? hy)
theorem q_forZip {a b : Addr} {xs ys : List V} {j1 j2 : Nat} (ha : Ev ta σ H (.ref a)) (hb : Ev tb σ H (.ref b)) (h1 : SqL K H a xs) (h2 : SqL K H b ys) (hlen : xs.length = ys.length) (Pv : Nat → L2.St → Hp → Prop) (h0 : ∀ H1, Ex H H1 → Pv 0 σ H1) (hl : ∀ i σ' H', Pv i σ' H' → SqL K H' a xs ∧ SqL K H' b ys)
    (hs : ∀ i x y σ' H' T, xs[i]? = some x → ys[i]? = some y → Pv i σ' H' → H' T = none → tu { D with nx := Pv (i + 1), ct := Pv (i + 1), bk := tz D } ((σ'.set j1 (some x)).set j2 (some y)) (upd H' T (.tup [x, y]))) (hd : ∀ σ' H', Pv xs.length σ' H' → tz D σ' H') :
    tSeq (tFor (iZip K (tCons ta (tCons tb tNil))) (gTup K 2 (gCons (gName j1) (gCons (gName j2) gNil))) tu) tz D σ H := by
  have h := ea_cons ha (ea_cons hb (ea_nil (σ := σ) (H := H)))
  unfold tSeq tFor iZip
  refine h H (Ex.refl H) _ fun H1 e1 => ⟨a, b, xs, ys, rfl, ex_l e1 h1, ex_l e1 h2, for_it (D := { D with nx := tz D }) (walk_zip (n := xs.length) (by omega)) Pv (h0 H1 e1) (fun i σ' H' _ p => hl i σ' H' p) (fun i v σ' Hb Hc hi p hy => ?_) fun σ' H' p => hd σ' H' p⟩
  obtain ⟨T, x, y, rfl, nT, rfl, hx, hy⟩ := hy
  exact ⟨T, [x, y], rfl, .of upd_same, rfl, _, _, rfl, _, _, rfl, rfl, hs i x y σ' _ T hx hy p nT⟩
end
/-! ### the book stays one that a play may hold -/
theorem good_put {ls : List Str} {B : Bk} {c : Cu} (g : Good ls B) (hn : c.n ∉ B.map (·.n)) (hc : GoodC c) (he : c.ws = []) (hl : B.length < 100) : Good ls (B ++ [c]) := by
  refine ⟨?_, by rw [List.length_append]; show B.length + 1 ≤ 100; omega, fun d hd => ?_, fun d hd x hx => ?_, g.ok, g.few⟩
  · rw [List.map_append]
    refine List.nodup_append.mpr ⟨g.nd, List.nodup_cons.mpr ⟨List.not_mem_nil, List.nodup_nil⟩, fun a ha b hb z => ?_⟩
    have hb : b ∈ [c.n] := hb
    rw [List.mem_singleton.mp hb] at z
    rw [z] at ha
    exact hn ha
  · rcases List.mem_append.mp hd with q | q
    · exact g.cue d q
    · rw [List.mem_singleton.mp q]; exact hc
  · rcases List.mem_append.mp hd with q | q
    · exact g.lam d q x hx
    · rw [List.mem_singleton.mp q, he] at hx
      cases hx
theorem at4 {a b c d : Int} {i : Int} (h0 : 0 ≤ i) (h1 : i < 4) : ∃ x, (x = a ∨ x = b ∨ x = c ∨ x = d) ∧ atI [V.int a, V.int b, V.int c, V.int d] i = some (.int x) := by
  obtain ⟨j, rfl⟩ := Int.eq_ofNat_of_zero_le h0
  match j with
  | 0 => exact ⟨a, .inl rfl, atI_nat rfl⟩
  | 1 => exact ⟨b, .inr (.inl rfl), atI_nat rfl⟩
  | 2 => exact ⟨c, .inr (.inr (.inl rfl)), atI_nat rfl⟩
  | 3 => exact ⟨d, .inr (.inr (.inr rfl)), atI_nat rfl⟩
  | j + 4 => omega
theorem behind_mem {B : Bk} {n k : Int} (h : behindOf B n = some k) : k ∈ B.map (·.n) ∧ n < k := by
  have hm := List.mem_of_mem_head? (Option.mem_def.mpr h)
  obtain ⟨h1, h2⟩ := List.mem_filter.mp hm
  obtain ⟨c, hc, rfl⟩ := List.mem_map.mp h1
  exact ⟨List.mem_map.mpr ⟨c, (asc_perm B).mem_iff.mp hc, rfl⟩, of_decide_eq_true h2⟩
theorem wput_mem {ws : List (Str × Int)} {l : Str} {v : Int} {x : Str × Int} (h : x ∈ wput ws l v) : x ∈ ws ∨ x = (l, v) := by
  unfold wput at h
  split at h
  · obtain ⟨y, hy, rfl⟩ := List.mem_map.mp h
    by_cases e : y.1 = l
    · rw [if_pos e, e]; exact .inr rfl
    · rw [if_neg e]; exact .inl hy
  · rcases List.mem_append.mp h with h | h
    · exact .inl h
    · exact .inr (List.mem_singleton.mp h)
theorem setW_nums (B : Bk) (n : Int) (l : Str) (v : Int) : (setW B n l v).map (·.n) = B.map (·.n) := by
  unfold setW
  rw [List.map_map]
  refine List.map_congr_left fun c _ => ?_
  show (if c.n = n then _ else c).n = c.n
  split <;> rfl
theorem holdB_nums (B : Bk) (o : Option Int) (l : Str) (v : Int) : (holdB B o l v).map (·.n) = B.map (·.n) := by
  cases o with
  | none => rfl
  | some n =>
    show (if _ then B else setW B n l v).map _ = _
    split
    · rfl
    · exact setW_nums B n l v
/-- only lamps of ls are told of -/
def Lam (ls : List Str) (B : Bk) : Prop := ∀ c ∈ B, ∀ p ∈ c.ws, p.1 ∈ ls
theorem setW_lam {ls : List Str} {B : Bk} (h : Lam ls B) (n : Int) {l : Str} (v : Int) (hl : l ∈ ls) : Lam ls (setW B n l v) := fun c hc x hx => by
  obtain ⟨d, hd, rfl⟩ := List.mem_map.mp hc
  by_cases e : d.n = n
  · rw [if_pos e] at hx
    rcases wput_mem hx with q | q
    · exact h d hd x q
    · rw [q]; exact hl
  · rw [if_neg e] at hx
    exact h d hd x hx
theorem holdB_lam {ls : List Str} {B : Bk} (h : Lam ls B) (o : Option Int) {l : Str} (v : Int) (hl : l ∈ ls) : Lam ls (holdB B o l v) := by
  cases o with
  | none => exact h
  | some n =>
    show Lam ls (if _ then B else setW B n l v)
    split
    · exact h
    · exact setW_lam h n v hl
theorem cutB_lam {ls : List Str} {B : Bk} (h : Lam ls B) (n : Int) : Lam ls (cutB B n) := fun c hc => h c (List.mem_filter.mp hc).1
theorem holdsB_nums (o : Option Int) : ∀ (ps : List (Str × Int)) (B : Bk), (holdsB B o ps).map (·.n) = B.map (·.n)
  | [], _ => rfl
  | p :: r, B => (holdsB_nums o r (holdB B o p.1 p.2)).trans (holdB_nums B o p.1 p.2)
theorem cutB_nums {B : Bk} {n k : Int} (h : k ∈ B.map (·.n)) (ne : k ≠ n) : k ∈ (cutB B n).map (·.n) := by
  obtain ⟨c, hc, rfl⟩ := List.mem_map.mp h
  exact List.mem_map.mpr ⟨c, List.mem_filter.mpr ⟨hc, decide_eq_true ne⟩, rfl⟩
/-- how many words a row tells -/
theorem row_few {H : Hp} {m : Addr} {R : List CRow} {ls : List Str} (h : MAt H m R) (hl : Lam ls (bk R)) (few : ls.length < 64) : ∀ r ∈ R, r.c.ws.length ≤ 1000 := fun r hr => by
  have := nodup_len (h.wn r hr) fun x hx => by
    obtain ⟨p, hp, rfl⟩ := List.mem_map.mp hx
    exact hl r.c (List.mem_map.mpr ⟨r, hr, rfl⟩) p hp
  rw [List.length_map] at this
  omega
theorem row_at {R : List CRow} {n : Int} (h : n ∈ (bk R).map (·.n)) : ∃ r ∈ R, r.c.n = n := by
  obtain ⟨c, hc, rfl⟩ := List.mem_map.mp h
  obtain ⟨r, hr, rfl⟩ := List.mem_map.mp hc
  exact ⟨r, hr, rfl⟩
theorem mkv_setR (R : List CRow) (n : Int) (l : Str) (v : Int) : mkv (setR R n l v) = mkv R := setR_map (fun r => ((.inl r.c.n : Key), V.ref r.la)) (fun _ _ _ => rfl) R n l v
/-- a deed at a play and at its model -/
def DeedL (At : AtT) (p m : Addr) (ls : List Str) (R : List CRow) (fp : Addr → Prop) (S : Bk → Prop) (H : Hp) (Q : VK) : Prop := ∀ H' R' fp', St At H' p m ls R' (bk R') fp' → S (bk R') → Mv (J fp m R) H (J fp' m R') H' → Q .non H'
theorem bk_put (R : List CRow) (r : CRow) : bk (R ++ [r]) = bk R ++ [r.c] := List.map_append
end PS

/-! what a deed leaves as it was: levels behind a word told, a level at one cue only, a cue lifted out -/
namespace MD
open PySem PySem.Spec PyProof.Rows L2 MB HW HM PI MC HJ PS
/-- the first that tells of a lamp, or is fresh -/
def dec : List Cu → Str → Option Int
  | [], _ => none
  | c :: r, l => match wlook c.ws l with
    | some v => some v
    | none => if c.fr = true then some 0 else dec r l
theorem lvlD_dec (l : Str) : ∀ cs : List Cu, lvlD cs l = (dec cs l).getD 0
  | [] => rfl
  | c :: r => by
    unfold lvlD dec
    cases wlook c.ws l with
    | some v => rfl
    | none =>
      show (if c.fr = true then 0 else lvlD r l) = (if c.fr = true then some 0 else dec r l).getD 0
      by_cases f : c.fr = true
      · rw [if_pos f, if_pos f]; rfl
      · rw [if_neg f, if_neg f]; exact lvlD_dec l r
theorem dec_append (l : Str) (ys : List Cu) : ∀ xs : List Cu, dec (xs ++ ys) l = (dec xs l).or (dec ys l)
  | [] => rfl
  | c :: r => by
    show (match wlook c.ws l with
      | some v => some v
      | none => if c.fr = true then some 0 else dec (r ++ ys) l) = (match wlook c.ws l with
      | some v => some v
      | none => if c.fr = true then some 0 else dec r l).or (dec ys l)
    cases wlook c.ws l with
    | some v => rfl
    | none =>
      show (if c.fr = true then some 0 else dec (r ++ ys) l) = (if c.fr = true then some 0 else dec r l).or _
      by_cases f : c.fr = true
      · rw [if_pos f, if_pos f]; rfl
      · rw [if_neg f, if_neg f]; exact dec_append l ys r
theorem dec_map {f : Cu → Cu} {l : Str} : ∀ {xs : List Cu}, (∀ c ∈ xs, wlook (f c).ws l = wlook c.ws l ∧ (f c).fr = c.fr) → dec (xs.map f) l = dec xs l
  | [], _ => rfl
  | c :: r, h => by
    rw [List.map_cons]
    unfold dec
    rw [(h c List.mem_cons_self).1, (h c List.mem_cons_self).2, dec_map fun d hd => h d (List.mem_cons_of_mem _ hd)]
/-! ### cues, latest first -/
theorem desc_strict {B : Bk} (nd : (B.map (·.n)).Nodup) : (desc B).Pairwise fun a b => b.n < a.n := by
  have nd2 : ((desc B).map (·.n)).Nodup := ((desc_perm B).map _).nodup_iff.mpr nd
  exact (desc_sorted B).imp₂ (fun {a b} h n => by omega) (List.pairwise_map.mp nd2)
theorem desc_uniq {B xs : Bk} (nd : (B.map (·.n)).Nodup) (h1 : xs.Perm B) (h2 : xs.Pairwise fun a b => b.n < a.n) : xs = desc B :=
  (h1.trans (desc_perm B).symm).eq_of_pairwise (le := fun a b : Cu => b.n < a.n) (fun a b _ _ p q => by omega) h2 (desc_strict nd)
theorem desc_map {B : Bk} {f : Cu → Cu} (nd : (B.map (·.n)).Nodup) (hf : ∀ c, (f c).n = c.n) : desc (B.map f) = (desc B).map f := by
  refine (desc_uniq ?_ ((desc_perm B).map f) (List.pairwise_map.mpr ((desc_strict nd).imp fun {a b} h => by rw [hf, hf]; exact h))).symm
  rw [List.map_map, show ((fun c : Cu => c.n) ∘ f) = fun c : Cu => c.n from funext hf]
  exact nd
theorem desc_filter {B : Bk} (p : Cu → Bool) (nd : (B.map (·.n)).Nodup) : desc (B.filter p) = (desc B).filter p :=
  (desc_uniq (nd.sublist (List.filter_sublist.map _)) ((desc_perm B).filter p) ((desc_strict nd).sublist List.filter_sublist)).symm
/-- the cues up to k, latest first -/
def upto (B : Bk) (k : Int) : Bk := (desc B).filter fun c => decide (c.n ≤ k)
def betw (B : Bk) (a k : Int) : Bk := (desc B).filter fun c => decide (a < c.n ∧ c.n ≤ k)
theorem lvl_dec (B : Bk) (k : Int) (l : Str) : lvl B k l = (dec (upto B k) l).getD 0 := lvlD_dec l _
theorem split_desc {a k : Int} (h : a ≤ k) : ∀ {xs : Bk}, (xs.Pairwise fun a b => b.n < a.n) → xs.filter (fun c => decide (c.n ≤ k)) = xs.filter (fun c => decide (a < c.n ∧ c.n ≤ k)) ++ xs.filter (fun c => decide (c.n ≤ a))
  | [], _ => rfl
  | c :: r, hp => by
    have hp' := List.pairwise_cons.mp hp
    have ih := split_desc h hp'.2
    by_cases h1 : c.n ≤ a
    · have no : r.filter (fun c => decide (a < c.n ∧ c.n ≤ k)) = [] := List.filter_eq_nil_iff.mpr fun d hd z => by
        have := hp'.1 d hd
        have := of_decide_eq_true z
        omega
      rw [no, List.nil_append] at ih
      rw [List.filter_cons, List.filter_cons, List.filter_cons, if_pos (decide_eq_true (by omega)), if_neg (by simp; omega), if_pos (decide_eq_true h1), no, ih]
      rfl
    · by_cases h2 : c.n ≤ k
      · rw [List.filter_cons, List.filter_cons, List.filter_cons, if_pos (decide_eq_true h2), if_pos (decide_eq_true ⟨by omega, h2⟩), if_neg (by simp; omega), ih]
        rfl
      · rw [List.filter_cons, List.filter_cons, List.filter_cons, if_neg (by simp; omega), if_neg (by simp; omega), if_neg (by simp; omega), ih]
theorem upto_split {B : Bk} (nd : (B.map (·.n)).Nodup) {a k : Int} (h : a ≤ k) : upto B k = betw B a k ++ upto B a := split_desc h (desc_strict nd)
/-- the same behind a: the same levels, where those at a are -/
theorem lvl_behind {B B' : Bk} (nd : (B.map (·.n)).Nodup) (nd' : (B'.map (·.n)).Nodup) {a k : Int} {l : Str} (h : a ≤ k) (hi : betw B' a k = betw B a k) (e : lvl B' a l = lvl B a l) : lvl B' k l = lvl B k l := by
  rw [lvl_dec, lvl_dec, upto_split nd h, upto_split nd' h, dec_append, dec_append, hi]
  rw [lvl_dec, lvl_dec] at e
  cases dec (betw B a k) l with
  | some v => rfl
  | none => exact e
/-! ### words -/
theorem wlook_wput (ws : List (Str × Int)) (l : Str) (v : Int) (k : Str) : wlook (wput ws l v) k = if k = l then some v else wlook ws k := by
  unfold wput
  by_cases ha : (ws.any fun p => decide (p.1 = l)) = true
  · rw [if_pos ha]
    induction ws with
    | nil => cases ha
    | cons p r ih =>
      rw [List.map_cons]
      by_cases e : p.1 = l
      · rw [if_pos e]
        by_cases hk : k = l
        · rw [if_pos hk, wlook_pos (by rw [hk]; exact e)]
        · rw [if_neg hk, wlook_neg (fun z => hk (by rw [← z]; exact e)), wlook_neg (fun z => hk (by rw [← z]; exact e))]
          by_cases hr : (r.any fun p => decide (p.1 = l)) = true
          · rw [ih hr, if_neg hk]
          · congr 1
            conv => rhs; rw [← List.map_id r]
            refine List.map_congr_left fun q hq => ?_
            rw [if_neg fun z => hr (List.any_eq_true.mpr ⟨q, hq, decide_eq_true z⟩)]
            rfl
      · have hr : (r.any fun p => decide (p.1 = l)) = true := by
          rw [List.any_cons, decide_eq_false e, Bool.false_or] at ha
          exact ha
        rw [if_neg e]
        by_cases hp : p.1 = k
        · rw [wlook_pos hp, wlook_pos hp, if_neg fun z => e (by rw [hp, z])]
        · rw [wlook_neg hp, wlook_neg hp, ih hr]
  · rw [if_neg ha]
    have no : wlook ws l = none := by
      unfold wlook
      rw [Option.map_eq_none_iff, List.find?_eq_none]
      exact fun p hp z => ha (List.any_eq_true.mpr ⟨p, hp, z⟩)
    have ap : wlook (ws ++ [(l, v)]) k = (wlook ws k).or (if l = k then some v else none) := by
      unfold wlook
      rw [List.find?_append, List.find?_cons]
      cases ws.find? fun p => decide (p.1 = k) with
      | some x => rfl
      | none =>
        by_cases e : l = k
        · simp [e]
        · simp [e]
    rw [ap]
    by_cases hk : k = l
    · rw [if_pos hk, if_pos hk.symm, hk, no]; rfl
    · rw [if_neg hk, if_neg fun z => hk z.symm]
      cases wlook ws k <;> rfl
/-! ### a word told -/
section
variable {B : Bk} {n k : Int} {l j : Str} {v : Int}
theorem nd_setW (nd : (B.map (·.n)).Nodup) : ((setW B n l v).map (·.n)).Nodup := by rw [setW_nums]; exact nd
theorem nd_holdB {o : Option Int} (nd : (B.map (·.n)).Nodup) : ((holdB B o l v).map (·.n)).Nodup := by rw [holdB_nums]; exact nd
def putf (n : Int) (l : Str) (v : Int) (c : Cu) : Cu := if c.n = n then { c with ws := wput c.ws l v } else c
theorem putf_n (c : Cu) : (putf n l v c).n = c.n := by unfold putf; split <;> rfl
theorem putf_fr (c : Cu) : (putf n l v c).fr = c.fr := by unfold putf; split <;> rfl
theorem desc_setW (nd : (B.map (·.n)).Nodup) : desc (setW B n l v) = (desc B).map (putf n l v) := desc_map nd putf_n
theorem filter_setW (nd : (B.map (·.n)).Nodup) (p : Int → Bool) : (desc (setW B n l v)).filter (fun c => p c.n) = ((desc B).filter fun c => p c.n).map (putf n l v) := by
  rw [desc_setW nd, List.filter_map]
  congr 1
  refine List.filter_congr fun c _ => ?_
  show p (putf n l v c).n = p c.n
  rw [putf_n]
/-- other lamps' levels -/
theorem lvl_setW_other (nd : (B.map (·.n)).Nodup) (h : j ≠ l) : lvl (setW B n l v) k j = lvl B k j := by
  rw [lvl_dec, lvl_dec]
  unfold upto
  rw [filter_setW nd fun m => decide (m ≤ k), dec_map fun c _ => ⟨?_, putf_fr c⟩]
  unfold putf
  split
  · rw [wlook_wput, if_neg h]
  · rfl
/-- cues ahead -/
theorem lvl_setW_ahead (nd : (B.map (·.n)).Nodup) (h : k < n) : lvl (setW B n l v) k j = lvl B k j := by
  rw [lvl_dec, lvl_dec]
  unfold upto
  rw [filter_setW nd fun m => decide (m ≤ k), dec_map fun c hc => ⟨?_, putf_fr c⟩]
  have := of_decide_eq_true (List.mem_filter.mp hc).2
  unfold putf
  rw [if_neg (by omega)]
theorem betw_setW (nd : (B.map (·.n)).Nodup) {a : Int} (h : n ≤ a) : betw (setW B n l v) a k = betw B a k := by
  unfold betw
  rw [filter_setW nd fun m => decide (a < m ∧ m ≤ k)]
  conv => rhs; rw [← List.map_id ((desc B).filter _)]
  refine List.map_congr_left fun c hc => ?_
  have := of_decide_eq_true (List.mem_filter.mp hc).2
  unfold putf
  rw [if_neg (by omega)]
  rfl
/-- the cue itself -/
theorem lvl_setW_self (nd : (B.map (·.n)).Nodup) (h : n ∈ B.map (·.n)) : lvl (setW B n l v) n l = v := by
  obtain ⟨c, hc, rfl⟩ := List.mem_map.mp h
  rw [lvl_dec]
  have hu : ∃ r, upto (setW B c.n l v) c.n = { c with ws := wput c.ws l v } :: r := by
    have hm : c ∈ upto B c.n := List.mem_filter.mpr ⟨(desc_perm B).mem_iff.mpr hc, decide_eq_true (Int.le_refl _)⟩
    cases q : upto B c.n with
    | nil => rw [q] at hm; cases hm
    | cons d r =>
      have st : (upto B c.n).Pairwise fun a b => b.n < a.n := (desc_strict nd).sublist List.filter_sublist
      have hd : d ∈ upto B c.n := by rw [q]; exact List.mem_cons_self
      have dn := of_decide_eq_true (List.mem_filter.mp hd).2
      rw [q] at st hm
      have e : d = c := by
        rcases List.mem_cons.mp hm with z | z
        · exact z.symm
        · have := (List.pairwise_cons.mp st).1 c z
          omega
      subst e
      refine ⟨r.map (putf d.n l v), ?_⟩
      have := filter_setW (n := d.n) (l := l) (v := v) nd fun m => decide (m ≤ d.n)
      unfold upto at q ⊢
      rw [this, q, List.map_cons]
      congr 1
      unfold putf
      rw [if_pos rfl]
  obtain ⟨r, e⟩ := hu
  rw [e]
  unfold dec
  rw [wlook_wput, if_pos rfl]
  rfl
/-! ### the level kept at the next cue -/
theorem lvl_hold_self (nd : (B.map (·.n)).Nodup) (h : n ∈ B.map (·.n)) : lvl (holdB B (some n) l v) n l = v := by
  show lvl (if lvl B n l = v then B else setW B n l v) n l = v
  split
  · assumption
  · exact lvl_setW_self nd h
theorem lvl_hold_other {o : Option Int} (nd : (B.map (·.n)).Nodup) (h : j ≠ l) : lvl (holdB B o l v) k j = lvl B k j := by
  cases o with
  | none => rfl
  | some m =>
    show lvl (if lvl B m l = v then B else setW B m l v) k j = _
    split
    · rfl
    · exact lvl_setW_other nd h
theorem lvl_hold_ahead (nd : (B.map (·.n)).Nodup) {m : Int} (h : k < m) : lvl (holdB B (some m) l v) k j = lvl B k j := by
  show lvl (if lvl B m l = v then B else setW B m l v) k j = _
  split
  · rfl
  · exact lvl_setW_ahead nd h
theorem betw_hold (nd : (B.map (·.n)).Nodup) {a : Int} : betw (holdB B (some a) l v) a k = betw B a k := by
  show betw (if lvl B a l = v then B else setW B a l v) a k = _
  split
  · rfl
  · exact betw_setW nd (Int.le_refl _)
theorem behind_none (h : behindOf B n = none) : ∀ k ∈ B.map (·.n), k ≤ n := fun k hk => by
  unfold behindOf at h
  rw [List.head?_eq_none_iff, List.filter_eq_nil_iff] at h
  obtain ⟨c, hc, rfl⟩ := List.mem_map.mp hk
  have := h c.n (List.mem_map.mpr ⟨c, (asc_perm B).mem_iff.mpr hc, rfl⟩)
  simpa using this
theorem behind_least {m : Int} (h : behindOf B n = some m) : ∀ k ∈ B.map (·.n), n < k → m ≤ k := fun k hk hn => by
  unfold behindOf at h
  obtain ⟨c, hc, rfl⟩ := List.mem_map.mp hk
  have hm : c.n ∈ ((asc B).map (·.n)).filter fun k => decide (n < k) := List.mem_filter.mpr ⟨List.mem_map.mpr ⟨c, (asc_perm B).mem_iff.mpr hc, rfl⟩, decide_eq_true hn⟩
  have st : (((asc B).map (·.n)).filter fun k => decide (n < k)).Pairwise (· ≤ ·) := (List.pairwise_map.mpr (asc_sorted B)).sublist List.filter_sublist
  cases q : ((asc B).map (·.n)).filter fun k => decide (n < k) with
  | nil => rw [q] at hm; cases hm
  | cons x r =>
    rw [q] at h hm st
    have e : x = m := Option.some.inj h
    subst e
    rcases List.mem_cons.mp hm with z | z
    · omega
    · exact (List.pairwise_cons.mp st).1 _ z
/-! ### one cue only -/
theorem only_self (nd : (B.map (·.n)).Nodup) (h : n ∈ B.map (·.n)) : lvl (onlyB B n l v) n l = v := by
  unfold onlyB
  cases q : behindOf B n with
  | none => exact lvl_setW_self nd h
  | some m =>
    rw [lvl_hold_ahead (nd_setW nd) (behind_mem q).2]
    exact lvl_setW_self nd h
theorem only_else (nd : (B.map (·.n)).Nodup) (hk : k ∈ B.map (·.n)) (ne : ¬ (k = n ∧ j = l)) : lvl (onlyB B n l v) k j = lvl B k j := by
  unfold onlyB
  by_cases hj : j = l
  · subst hj
    by_cases lt : k < n
    · cases q : behindOf B n with
      | none => exact lvl_setW_ahead nd lt
      | some m =>
        rw [lvl_hold_ahead (nd_setW nd) (by have := (behind_mem q).2; omega)]
        exact lvl_setW_ahead nd lt
    · have gt : n < k := by
        have : k ≠ n := fun z => ne ⟨z, rfl⟩
        omega
      cases q : behindOf B n with
      | none =>
        have := behind_none q k hk
        omega
      | some m =>
        have hm := behind_mem q
        refine lvl_behind nd (nd_holdB (nd_setW nd)) (behind_least q k hk gt) ?_ ?_
        · rw [betw_hold (nd_setW nd), betw_setW nd (by omega)]
        · exact lvl_hold_self (nd_setW nd) (by rw [setW_nums]; exact hm.1)
  · rw [lvl_hold_other (nd_setW nd) hj, lvl_setW_other nd hj]
/-! ### a cue lifted out -/
theorem nd_cut (nd : (B.map (·.n)).Nodup) : ((cutB B n).map (·.n)).Nodup := nd.sublist (List.filter_sublist.map _)
theorem upto_cut (nd : (B.map (·.n)).Nodup) (h : k < n) : upto (cutB B n) k = upto B k := by
  unfold upto cutB
  rw [desc_filter _ nd, List.filter_filter]
  refine List.filter_congr fun c _ => ?_
  by_cases e : c.n ≤ k
  · rw [decide_eq_true e, decide_eq_true (show c.n ≠ n by omega)]; rfl
  · rw [decide_eq_false e]; rfl
theorem betw_cut (nd : (B.map (·.n)).Nodup) {a : Int} (h : n ≤ a) : betw (cutB B n) a k = betw B a k := by
  unfold betw cutB
  rw [desc_filter _ nd, List.filter_filter]
  refine List.filter_congr fun c _ => ?_
  by_cases e : a < c.n ∧ c.n ≤ k
  · rw [decide_eq_true e, decide_eq_true (show c.n ≠ n by omega)]; rfl
  · rw [decide_eq_false e]; rfl
theorem nd_holds {o : Option Int} {ps : List (Str × Int)} (nd : (B.map (·.n)).Nodup) : ((holdsB B o ps).map (·.n)).Nodup := by rw [holdsB_nums]; exact nd
theorem betw_holds {a : Int} : ∀ (ps : List (Str × Int)) {B : Bk}, (B.map (·.n)).Nodup → betw (holdsB B (some a) ps) a k = betw B a k
  | [], _, _ => rfl
  | p :: r, B, nd => (betw_holds r (nd_holdB nd)).trans (betw_hold nd)
theorem lvl_holds_ahead {a : Int} (h : k < a) : ∀ (ps : List (Str × Int)) {B : Bk}, (B.map (·.n)).Nodup → lvl (holdsB B (some a) ps) k j = lvl B k j
  | [], _, _ => rfl
  | p :: r, B, nd => (lvl_holds_ahead h r (nd_holdB nd)).trans (lvl_hold_ahead nd h)
theorem lvl_holds_self {a : Int} (f : Str → Int) : ∀ (qs : List Str) {B : Bk}, (B.map (·.n)).Nodup → a ∈ B.map (·.n) → (j ∈ qs ∨ lvl B a j = f j) → lvl (holdsB B (some a) (qs.map fun l => (l, f l))) a j = f j
  | [], B, nd, ha, h => h.elim (fun z => absurd z List.not_mem_nil) id
  | q :: r, B, nd, ha, h => by
    show lvl (holdsB (holdB B (some a) q (f q)) (some a) (r.map fun l => (l, f l))) a j = f j
    refine lvl_holds_self f r (nd_holdB nd) (by rw [holdB_nums]; exact ha) ?_
    by_cases e : j = q
    · subst e
      exact .inr (lvl_hold_self nd ha)
    · rcases h with h | h
      · exact .inl ((List.mem_cons.mp h).resolve_left e)
      · exact .inr (by rw [lvl_hold_other nd e]; exact h)
theorem lift_else {ls : List Str} (nd : (B.map (·.n)).Nodup) (hn : n ∈ B.map (·.n)) (hk : k ∈ B.map (·.n)) (ne : k ≠ n) (hj : j ∈ ls) : lvl (liftB B n ls) k j = lvl B k j := by
  unfold liftB
  by_cases lt : k < n
  · have base : lvl (cutB B n) k j = lvl B k j := by rw [lvl_dec, lvl_dec, upto_cut nd lt]
    cases q : behindOf B n with
    | none =>
      have hh : ∀ (ps : List (Str × Int)) (B : Bk), holdsB B none ps = B := fun ps => by
        induction ps with
        | nil => exact fun _ => rfl
        | cons p r ih => exact fun B => ih B
      rw [hh]
      exact base
    | some m =>
      rw [lvl_holds_ahead (by have := (behind_mem q).2; omega) _ (nd_cut nd)]
      exact base
  · cases q : behindOf B n with
    | none =>
      have := behind_none q k hk
      omega
    | some m =>
      have hm := behind_mem q
      refine lvl_behind nd (nd_holds (nd_cut nd)) (behind_least q k hk (by omega)) ?_ ?_
      · rw [betw_holds _ (nd_cut nd), betw_cut nd (by omega)]
      · exact lvl_holds_self (fun l => dueB B (some m) l) ls (nd_cut nd) (cutB_nums hm.1 (by omega)) (.inl hj)
end
end MD

/-! deeds done at a model and its play; what is built -/
namespace PT
open PySem PySem.Spec PyProof.Rows L2 Evl HB MB HW HI HM PI MC HJ PS
section
variable {P : Program} {w : World} {K : PySem.W.Frag} {mg : Str → Option Value} {base : Heap} {C : Addr} {At : AtT}
/-- nine numbers of cues -/
structure Nine (ns : List Int) : Prop where
  len : ns.length = 9
  lo : ∀ n ∈ ns, 1 ≤ n
  hi : ∀ n ∈ ns, n ≤ 999999
def InN (ns : List Int) (B : Bk) : Prop := ∀ n ∈ B.map (·.n), n ∈ ns
section
variable {σ : L2.St} {H : Hp} {D : Ends} {p m : Addr} {ls : List Str} {R : List CRow} {fp : Addr → Prop} {r : CRow} {l : Str} {v : Int}
theorem s_retC {sp : Sp} {E : XK} {ta : TA} {vs : List V} (h : EvA ta σ H vs) (k : ∀ H1, Ex H H1 → sp (vs ++ []) H1 D.rt E) : tRet (tCall sp [] E ta) D σ H := h H (Ex.refl H) (fun vs H1 => sp (vs ++ []) H1 D.rt E) k
/-- a word told, of the model, then of the play -/
theorem s_tell {i0 i1 i5 i6 i7 : Nat} (L : Pl P w K mg base C At) (s : St At H p m ls R (bk R) fp) (hr0 : r ∈ R) (hl : l ∈ ls) (v1 : 0 ≤ v) (v2 : v ≤ 100) (g0 : σ[i0]? = some (some (.ref p))) (g1 : σ[i1]? = some (some (.ref m))) (g5 : σ[i5]? = some (some (.int r.c.n))) (g6 : σ[i6]? = some (some (.str l))) (g7 : σ[i7]? = some (some (.int v)))
    (q : ∀ H' R' fp', St At H' p m ls R' (bk R') fp' → bk R' = setW (bk R) r.c.n l v → Mv (J fp m R) H (J fp' m R') H' → D.rt .non H') :
    tSeq (sDPut (tOp (rIxL K) (tDGet (tVar i1) (tVar i5)) (tC (.int 3))) (tVar i6) (tVar i7)) (tRet (tMeth C "tell" (spTell At) [] E0 (tVar i0) (tCons (tVar i5) (tCons (tVar i6) (tCons (tVar i7) tNil))))) D σ H := by
  have gd := L.good s.pl
  have hc : r.c ∈ bk R := List.mem_map.mpr ⟨r, hr0, rfl⟩
  refine q_dput (k := .inr l) (v := .int v) (ev_var g7) (ev_words (K := K) s.mat hr0 (ev_var g1) (ev_var g5) ev_c) (ev_var g6) (s.mat.row r hr0).2 (by rw [wkv_len]; have := words_few gd hc; omega) fun H3 e3 => ?_
  rw [put_wkv]
  obtain ⟨s3, m3⟩ := s.model L ((s.mat.ex e3).setw hr0 l v) (by rw [upd_ne (Ne.symm (s.mat.mw r hr0)), mkv_setR]; exact e3 _ _ s.mdk) (Mv.setw hr0 e3 l v _)
  refine t_m L s3.pl (m := "tell") (by decide) (ev_var g0) (ea_cons (ev_var g5) (ea_cons (ev_var g6) (ea_cons (ev_var g7) ea_nil))) fun H5 e5 => ⟨p, ls, bk R, fp, r.c.n, l, v, rfl, L.ex s3.pl e5, List.mem_map.mpr ⟨r.c, hc, rfl⟩, hl, v1, v2, fun H6 fp' hA v6 => ?_⟩
  obtain ⟨s6, m6⟩ := (s3.ex L e5).play hA v6
  exact q H6 _ fp' (by rw [bk_setR]; exact s6) (bk_setR _ _ _ _) (m3.trans ((Mv.of_ex e5).trans m6))
theorem val_words {r : CRow} {l : Str} (h : (wlook r.c.ws l).isSome = true) : ∃ v, valV (wkv r.c.ws) (.inr l) = some v := by
  obtain ⟨v, hv⟩ := Option.isSome_iff_exists.mp h
  exact ⟨.int v, by rw [val_wkv, hv]; rfl⟩
/-- a word told no more -/
theorem s_untell {i0 i1 i5 i6 : Nat} (L : Pl P w K mg base C At) (s : St At H p m ls R (bk R) fp) (hr0 : r ∈ R) (hw : (wlook r.c.ws l).isSome = true) (g0 : σ[i0]? = some (some (.ref p))) (g1 : σ[i1]? = some (some (.ref m))) (g5 : σ[i5]? = some (some (.int r.c.n))) (g6 : σ[i6]? = some (some (.str l)))
    (q : ∀ H' R' fp', St At H' p m ls R' (bk R') fp' → bk R' = dropW (bk R) r.c.n l → Mv (J fp m R) H (J fp' m R') H' → D.rt .non H') :
    tSeq (tDrop (tDPop1 (tOp (rIxL K) (tDGet (tVar i1) (tVar i5)) (tC (.int 3))) (tVar i6))) (tRet (tMeth C "untell" (spUntell At) [] E0 (tVar i0) (tCons (tVar i5) (tCons (tVar i6) tNil)))) D σ H := by
  have gd := L.good s.pl
  have hc : r.c ∈ bk R := List.mem_map.mpr ⟨r, hr0, rfl⟩
  obtain ⟨x, hx⟩ := val_words hw
  refine q_dpop (k := .inr l) (ev_words (K := K) s.mat hr0 (ev_var g1) (ev_var g5) ev_c) (ev_var g6) (s.mat.row r hr0).2 hx fun H3 e3 => ?_
  rw [drop_wkv]
  obtain ⟨s3, m3⟩ := s.model L ((s.mat.ex e3).modw hr0 (fun ws => wdrop ws l) (wdrop_keys _ _ (s.mat.wn r hr0))) (by
    rw [upd_ne (Ne.symm (s.mat.mw r hr0)), show mkv (modR R r.c.n fun ws => wdrop ws l) = mkv R from modR_map (fun r => ((.inl r.c.n : Key), V.ref r.la)) _ (fun _ => rfl) R _]
    exact e3 _ _ s.mdk) (Mv.modw hr0 e3 _ _)
  refine t_m L s3.pl (m := "untell") (by decide) (ev_var g0) (ea_cons (ev_var g5) (ea_cons (ev_var g6) ea_nil)) fun H5 e5 => ⟨p, ls, bk R, fp, r.c.n, l, r.c, rfl, L.ex s3.pl e5, cueAt_of gd.nd hc, hw, fun H6 fp' hA v6 => ?_⟩
  obtain ⟨s6, m6⟩ := (s3.ex L e5).play hA v6
  exact q H6 _ fp' (by rw [bk_modR]; exact s6) (bk_modR _ _ _) (m3.trans ((Mv.of_ex e5).trans m6))
/-- a cue cut out -/
theorem s_cut {i0 i1 i5 : Nat} (L : Pl P w K mg base C At) (s : St At H p m ls R (bk R) fp) (hr0 : r ∈ R) (g0 : σ[i0]? = some (some (.ref p))) (g1 : σ[i1]? = some (some (.ref m))) (g5 : σ[i5]? = some (some (.int r.c.n)))
    (q : ∀ H' R' fp', St At H' p m ls R' (bk R') fp' → bk R' = cutB (bk R) r.c.n → Mv (J fp m R) H (J fp' m R') H' → D.rt .non H') :
    tSeq (tDrop (tDPop1 (tVar i1) (tVar i5))) (tRet (tMeth C "cut" (spCut At) [] E0 (tVar i0) (tCons (tVar i5) tNil))) D σ H := by
  have hc : r.c ∈ bk R := List.mem_map.mpr ⟨r, hr0, rfl⟩
  have hv : valV (mkv R) (.inl r.c.n) = some (.ref r.la) := by
    obtain ⟨r2, h2, e2, _, e3⟩ := row_of (cueAt_of s.mat.nd hc)
    rw [e3, nodup_at (nd_n s.mat.nd) h2 hr0 (by rw [e2])]
  refine q_dpop (k := .inl r.c.n) (ev_var g1) (ev_var g5) s.mdk hv fun H3 e3 => ?_
  rw [drop_mkv]
  obtain ⟨s3, m3⟩ := s.model L ((s.mat.ex e3).less _) upd_same (Mv.less e3 _ _)
  refine t_m L s3.pl (m := "cut") (by decide) (ev_var g0) (ea_cons (ev_var g5) ea_nil) fun H5 e5 => ⟨p, ls, bk R, fp, r.c.n, rfl, L.ex s3.pl e5, List.mem_map.mpr ⟨r.c, hc, rfl⟩, fun H6 fp' hA v6 => ?_⟩
  obtain ⟨s6, m6⟩ := (s3.ex L e5).play hA v6
  exact q H6 _ fp' (by rw [bk_less]; exact s6) (bk_less _ _) (m3.trans ((Mv.of_ex e5).trans m6))
end
/-- what is built: play, model, lamps, numbers; all of it new -/
structure Built (At : AtT) (H H' : Hp) (p m a b : Addr) (ls : List Str) (ns : List Int) (R : List CRow) (fp : Addr → Prop) : Prop where
  ex : Ex H H'
  st : St At H' p m ls R (bk R) fp
  la : H' a = some (.lst (ls.map V.str))
  na : ¬ J fp m R a
  lb : H' b = some (.lst (ns.map V.int))
  nb : ¬ J fp m R b
  inn : InN ns (bk R)
  new : ∀ x, J fp m R x → H x = none
theorem Built.go {H H' H'' : Hp} {p m a b : Addr} {ls : List Str} {ns : List Int} {R R' : List CRow} {fp fp' : Addr → Prop} (h : Built At H H' p m a b ls ns R fp) (v : Mv (J fp m R) H' (J fp' m R') H'') (s : St At H'' p m ls R' (bk R') fp') (i : InN ns (bk R')) : Built At H H'' p m a b ls ns R' fp' := by
  obtain ⟨q1, q2⟩ := v.off h.la h.na
  obtain ⟨q3, q4⟩ := v.off h.lb h.nb
  refine ⟨fun c u hc => v.keep c u (h.ex c u hc) fun z => (by rw [h.new c z] at hc; cases hc), s, q1, q2, q3, q4, i, fun x hx => ?_⟩
  rcases v.grow x hx with z | z
  · exact h.new x z
  · exact fresh_back h.ex z
theorem Built.mono {H H' H'' : Hp} {p m a b : Addr} {ls : List Str} {ns : List Int} {R : List CRow} {fp : Addr → Prop} (L : Pl P w K mg base C At) (h : Built At H H' p m a b ls ns R fp) (e : Ex H' H'') : Built At H H'' p m a b ls ns R fp :=
  ⟨h.ex.trans e, h.st.ex L e, e _ _ h.la, h.na, e _ _ h.lb, h.nb, h.inn, h.new⟩
/-- all is new: play, model, lists -/
theorem built0 {H H2 H3 H4 : Hp} {p m a b : Addr} {ls : List Str} {ns : List Int} {fp : Addr → Prop} (L : Pl P w K mg base C At) (e2 : Ex H H2) (ha : H2 a = some (.lst (ls.map V.str))) (hb : H2 b = some (.lst (ns.map V.int))) (hA : At H3 p ls [] fp) (new : ∀ x, fp x → H2 x = none) (e3 : Ex H2 H3) (nm : H3 m = none) (e4 : Ex H3 H4) (hm : H4 m = some (.dK [])) :
    Built At H H4 p m a b ls ns [] fp := by
  have J0 : ∀ x, J fp m [] x → H2 x = none := fun x hx => by
    rcases hx with z | z | ⟨r, hr, _⟩
    · exact new x z
    · rw [z]; exact fresh_back e3 nm
    · cases hr
  refine ⟨e2.trans (e3.trans e4), ⟨⟨.inl hm, fun r hr => absurd hr List.not_mem_nil, List.nodup_nil, List.nodup_nil, List.nodup_nil, fun r hr => absurd hr List.not_mem_nil, fun r hr => absurd hr List.not_mem_nil⟩, hm, L.ex hA e4, fun x hx z => ?_⟩, e4 _ _ (e3 _ _ ha), fun z => ?_, e4 _ _ (e3 _ _ hb), fun z => ?_, fun k hk => absurd hk List.not_mem_nil, fun x hx => fresh_back e2 (J0 x hx)⟩
  · rcases z with z | ⟨r, hr, _⟩
    · rcases hx with hx | hx
      · obtain ⟨u, hu⟩ := L.known hA hx
        rw [z, nm] at hu
        cases hu
      · have hu := (L.tabs hA hx).1
        rw [z] at hu
        have hu : H3 m = some _ := hu
        rw [nm] at hu
        cases hu
    · cases hr
  · have := J0 a z
    rw [ha] at this
    cases this
  · have := J0 b z
    rw [hb] at this
    cases this
/-- the lamps asked of are the lamps told of -/
theorem Built.asked {H H' : Hp} {p m a b : Addr} {ls : List Str} {ns : List Int} {R : List CRow} {fp : Addr → Prop} (L : Pl P w K mg base C At) (h : Built At H H' p m a b ls ns R fp) : (∀ l ∈ ls, LampOk l) ∧ (∀ c ∈ bk R, ∀ x ∈ c.ws, x.1 ∈ ls) ∧ ls.length < 64 :=
  have g := L.good h.st.pl
  ⟨g.ok, g.lam, g.few⟩
/-- what is not of the play and the model stays: a list of the law's own -/
theorem Built.kept {H H' : Hp} {p m a b : Addr} {ls : List Str} {ns : List Int} {R : List CRow} {fp : Addr → Prop} (h : Built At H H' p m a b ls ns R fp) {q : Addr} {u : HO} (hq : H q = some u) : H' q = some u := h.ex q u hq
/-- a new thing is none of theirs -/
theorem Built.fresh {H H' : Hp} {p m a b q : Addr} {ls : List Str} {ns : List Int} {R : List CRow} {fp : Addr → Prop} (L : Pl P w K mg base C At) (h : Built At H H' p m a b ls ns R fp) (nq : H' q = none) : ¬ J fp m R q := fun z => by
  rcases z with z | z
  · obtain ⟨u, hu⟩ := L.known h.st.pl z
    rw [nq] at hu; cases hu
  · obtain ⟨u, hu⟩ := h.st.mat.known z
    rw [nq] at hu; cases hu
theorem Built.onto {H0 H H' : Hp} {p m a b : Addr} {ls : List Str} {ns : List Int} {R : List CRow} {fp : Addr → Prop} (h : Built At H H' p m a b ls ns R fp) (e : Ex H0 H) : Built At H0 H' p m a b ls ns R fp :=
  ⟨e.trans h.ex, h.st, h.la, h.na, h.lb, h.nb, h.inn, fun x hx => fresh_back e (h.new x hx)⟩
/-- two plays with their models, apart; qs: other things of the law's own that stay -/
structure Two (At : AtT) (H H' : Hp) (p m q n a b : Addr) (ls : List Str) (ns : List Int) (qs : List (Addr × HO)) (R : List CRow) (fp : Addr → Prop) (R2 : List CRow) (fp2 : Addr → Prop) : Prop where
  b0 : Built At H H' p m a b ls ns R fp
  b1 : Built At H H' q n a b ls ns R2 fp2
  ap : ∀ x, J fp m R x → ¬ J fp2 n R2 x
  kp : ∀ x ∈ qs, H' x.1 = some x.2 ∧ ¬ J fp m R x.1 ∧ ¬ J fp2 n R2 x.1
theorem St.ntb {H : Hp} {p m : Addr} {ls : List Str} {R : List CRow} {B : Bk} {fp : Addr → Prop} (L : Pl P w K mg base C At) (s : St At H p m ls R B fp) {x : Addr} (h : J fp m R x) : ¬ At.tb x := fun z => h.elim (L.tabs s.pl z).2 fun k => s.dis x (.inr z) k
section
variable {H H' H'' : Hp} {p m q n a b : Addr} {ls : List Str} {ns : List Int} {qs : List (Addr × HO)} {R R' R2 : List CRow} {fp fp' fp2 : Addr → Prop}
theorem Two.swap (t : Two At H H' p m q n a b ls ns qs R fp R2 fp2) : Two At H H' q n p m a b ls ns qs R2 fp2 R fp := ⟨t.b1, t.b0, fun x h k => t.ap x k h, fun x hx => ⟨(t.kp x hx).1, (t.kp x hx).2.2, (t.kp x hx).2.1⟩⟩
theorem Two.mono (L : Pl P w K mg base C At) (t : Two At H H' p m q n a b ls ns qs R fp R2 fp2) (e : Ex H' H'') : Two At H H'' p m q n a b ls ns qs R fp R2 fp2 := ⟨t.b0.mono L e, t.b1.mono L e, t.ap, fun x hx => ⟨e _ _ (t.kp x hx).1, (t.kp x hx).2⟩⟩
theorem Two.go (L : Pl P w K mg base C At) (t : Two At H H' p m q n a b ls ns qs R fp R2 fp2) (v : Mv (J fp m R) H' (J fp' m R') H'') (s : St At H'' p m ls R' (bk R') fp') (i : InN ns (bk R')) : Two At H H'' p m q n a b ls ns qs R' fp' R2 fp2 := by
  have g := t.b0.go v s i
  obtain ⟨s1, ap1⟩ := t.b1.st.other L v fun x hx => ⟨t.ap x hx, PT.St.ntb L t.b0.st hx⟩
  refine ⟨g, ⟨g.ex, s1, g.la, t.b1.na, g.lb, t.b1.nb, t.b1.inn, t.b1.new⟩, fun x hx => (ap1 x hx).1, fun x hx => ?_⟩
  obtain ⟨h1, h2, h3⟩ := t.kp x hx
  obtain ⟨h4, h5⟩ := v.off h1 h2
  exact ⟨h4, h5, h3⟩
end
/-- the law's promise -/
def spLaw (K : PySem.W.Frag) (tb : Addr → Prop) : Sp := fun vs H Q _ => ∃ (a : Addr) (ns : List Int), vs = [.ref a] ∧ SqL K H a (ns.map V.int) ∧ ns.length ≤ 63 ∧ (∀ b, tb b → GX.TabX H b) ∧ RetV (.bl true) H Q
section
variable {σ : L2.St} {H H' : Hp} {D : Ends} {tu tz : TS} {tl te td ta tb : TE} {x y v : V}
theorem q_forEnumN {xs : List V} {j1 j2 : Nat} (h : EvL tl σ H xs) (Pv : Addr → Nat → L2.St → Hp → Prop) (h0 : ∀ p H1, H p = none → Ex H H1 → H1 p = some (.lst xs) → Pv p 0 σ H1) (hl : ∀ p i σ' H', Pv p i σ' H' → H' p = some (.lst xs))
    (hs : ∀ p i x σ' H' T, xs[i]? = some x → Pv p i σ' H' → H' T = none → tu { D with nx := Pv p (i + 1), ct := Pv p (i + 1), bk := tz D } ((σ'.set j1 (some (.int (i : Nat)))).set j2 (some x)) (upd H' T (.tup [.int (i : Nat), x]))) (hd : ∀ p σ' H', Pv p xs.length σ' H' → tz D σ' H') :
    tSeq (tFor (iEnum K (tCons tl tNil)) (gTup K 2 (gCons (gName j1) (gCons (gName j2) gNil))) tu) tz D σ H := by
  unfold tSeq tFor iEnum
  refine h H (Ex.refl H) _ fun p H1 np e1 h1 => ⟨p, xs, rfl, .of h1, for_it (D := { D with nx := tz D }) walk_enum (Pv p) (h0 p H1 np e1 h1) (fun i σ' H' _ q => .of (hl p i σ' H' q)) (fun i v σ' Hb Hc hi q hy => ?_) fun σ' H' q => hd p σ' H' q⟩
  obtain ⟨T, x, y, rfl, nT, rfl, hx, hy⟩ := hy
  cases hx
  exact ⟨T, [.int (i : Nat), y], rfl, .of upd_same, rfl, _, _, rfl, _, _, rfl, rfl, hs p i y σ' _ T hy q nT⟩
/-- over a new tuple -/
theorem q_forNTn {xs : List V} {j : Nat} (h : EvU tl σ H xs) (Pv : Addr → Nat → L2.St → Hp → Prop) (h0 : ∀ p H1, H p = none → Ex H H1 → H1 p = some (.tup xs) → Pv p 0 σ H1) (hl : ∀ p i σ' H', i ≤ xs.length → Pv p i σ' H' → SqT K H' p xs)
    (hs : ∀ p i x σ' H', xs[i]? = some x → Pv p i σ' H' → tu { D with nx := Pv p (i + 1), ct := Pv p (i + 1), bk := tz D } (σ'.set j (some x)) H') (hd : ∀ p σ' H', Pv p xs.length σ' H' → tz D σ' H') : tSeq (tFor (iTup K tl) (gName j) tu) tz D σ H := by
  unfold tSeq tFor iTup
  exact h H (Ex.refl H) _ fun p H1 np e h1 => ⟨p, rfl, ⟨xs, .of h1⟩, for_tup (D := { D with nx := tz D }) (g := gName j) (Pv p) (h0 p H1 np e h1) (hl p) (hs p) (hd p)⟩
/-- if f(..) is not None: .. where f tells None -/
theorem q_ifN {sp : Sp} {E : XK} {tA : TA} {vs : List V} (ha : EvA tA σ H vs) (mono : ∀ vs H (Q Q' : VK) E, (∀ v H, Q v H → Q' v H) → sp vs H Q E → sp vs H Q' E) (hs : ∀ H1, Ex H H1 → sp (vs ++ []) H1 (fun v H2 => v = .non ∧ tz D σ H2) E) :
    tSeq (tIfS (tTest (tOp (fun x y H Q => y = .non ∧ Q (.bl (!decide (x = .non))) H) (tCall sp [] E tA) (tC .non))) tu tNext) tz D σ H :=
  ha H (Ex.refl H) (fun ws H1 => sp (ws ++ []) H1 _ E) fun H1 e1 => mono _ _ _ _ _ (fun v H2 ⟨e, q⟩ => by
    subst e
    exact ⟨rfl, false, rfl, q⟩) (hs H1 e1)
/-- if f(..) is not None or ..: .. where f tells None, and the rest is false behind it -/
theorem q_ifNor {sp : Sp} {E : XK} {tA : TA} {vs : List V} {t2 : TT} (ha : EvA tA σ H vs) (mono : ∀ vs H (Q Q' : VK) E, (∀ v H, Q v H → Q' v H) → sp vs H Q E → sp vs H Q' E) (hs : ∀ H1, Ex H H1 → sp (vs ++ []) H1 (fun v H2 => v = .non ∧ EvT t2 σ H2 false ∧ ∀ H3, Ex H2 H3 → tz D σ H3) E) :
    tSeq (tIfS (tOr (tTest (tOp (fun x y H Q => y = .non ∧ Q (.bl (!decide (x = .non))) H) (tCall sp [] E tA) (tC .non))) t2) tu tNext) tz D σ H :=
  ha H (Ex.refl H) (fun ws H1 => sp (ws ++ []) H1 _ E) fun H1 e1 => mono _ _ _ _ _ (fun v H2 ⟨e, h2, q⟩ => by
    subst e
    exact ⟨rfl, false, rfl, h2 H2 (Ex.refl H2) _ fun H3 e3 => q H3 e3⟩) (hs H1 e1)
/-- m.pop(n); if play.cut(n) is not None: .. -/
theorem s_cutIf {p m : Addr} {ls : List Str} {R : List CRow} {fp : Addr → Prop} {r : CRow} {i0 i1 i5 : Nat} (L : Pl P w K mg base C At) (s : St At H p m ls R (bk R) fp) (hr0 : r ∈ R) (g0 : σ[i0]? = some (some (.ref p))) (g1 : σ[i1]? = some (some (.ref m))) (g5 : σ[i5]? = some (some (.int r.c.n)))
    (q : ∀ H' R' fp', St At H' p m ls R' (bk R') fp' → bk R' = cutB (bk R) r.c.n → Mv (J fp m R) H (J fp' m R') H' → D.nx σ H') :
    tSeq (tDrop (tDPop1 (tVar i1) (tVar i5))) (tIfS (tTest (tOp (fun x y H Q => y = .non ∧ Q (.bl (!decide (x = .non))) H) (tMeth C "cut" (spCut At) [] E0 (tVar i0) (tCons (tVar i5) tNil)) (tC .non))) tu tNext) D σ H := by
  have hc : r.c ∈ bk R := List.mem_map.mpr ⟨r, hr0, rfl⟩
  have hv : valV (mkv R) (.inl r.c.n) = some (.ref r.la) := by
    obtain ⟨r2, h2, e2, _, e3⟩ := row_of (cueAt_of s.mat.nd hc)
    rw [e3, nodup_at (nd_n s.mat.nd) h2 hr0 (by rw [e2])]
  refine q_dpop (k := .inl r.c.n) (ev_var g1) (ev_var g5) s.mdk hv fun H3 e3 => ?_
  rw [drop_mkv]
  obtain ⟨s3, m3⟩ := s.model L ((s.mat.ex e3).less _) upd_same (Mv.less e3 _ _)
  refine t_m L s3.pl (m := "cut") (by decide) (ev_var g0) (ea_cons (ev_var g5) ea_nil) fun H5 e5 => ⟨p, ls, bk R, fp, r.c.n, rfl, L.ex s3.pl e5, List.mem_map.mpr ⟨r.c, hc, rfl⟩, fun H6 fp' hA v6 => ?_⟩
  obtain ⟨s6, m6⟩ := (s3.ex L e5).play hA v6
  exact ⟨rfl, false, rfl, q H6 _ fp' (by rw [bk_less]; exact s6) (bk_less _ _) (m3.trans ((Mv.of_ex e5).trans m6))⟩
theorem ev_lenD {a : Addr} {kvs : List (Key × V)} (ha : Ev ta σ H (.ref a)) (h : H a = some (.dK kvs)) : Ev (tCB (fun xs H Q => ∃ a kvs, xs = [V.ref a] ∧ H a = some (.dK kvs) ∧ Q (.int kvs.length) H) (tCons ta tNil)) σ H (.int (kvs.length : Int)) := fun H1 e Q q =>
  ha H1 e _ fun H2 e2 => ⟨a, kvs, rfl, e2 _ _ (e _ _ h), q H2 e2⟩
end
end
end PT

set_option maxHeartbeats 4000000
/-! built-ins at the library's level: min and max of a list with a default; {**a, **b} -/
namespace RB
open PySem
open PyProof.Rows (IntsAre)
theorem min_args (a v : Value) : argsOk "min" ⟨[a], [(Str.ofString "default", v)]⟩ := by (unfold argsOk); kernel_rfl
section
variable {prog : Program} {w : World} {A : Around} {R : Result → Shared → Prop} {E : Value → Shared → Prop} {I S : Addr} {fp wr : List Addr} {n : Nat} {P : Nat → Value → Prop} {St : Nat → Heap → Prop} {kw : List (Str × Value)} {bt : Nat → Nat → Bool} {s : Shared}
theorem min_nm : (toString "min" ++ toString ".loop" : String) = "min.loop" := by (decide)
/-- the turns behind the first one, whatever the call's keywords -/
theorem min_turns (W : Walks prog w A.in1 I fp wr n P St) (cm : CmpOf prog w A.in1 .Lt P bt) (nf : S ∉ fp) :
    ∀ (k j : Nat) (s : Shared) (vb : Value) (c : Nat), n = j + 1 + k → St (j + 1) s.heap → P (argBest bt j) vb → s.heap.get? S = some { cls := .type "list", dict := none, data := .seq #[vb, vb] c, slots := #[] } →
      (∀ v h' tk, P (argBest bt (n - 1)) v → (∀ b o, b ∉ wr → b ≠ S → s.heap.get? b = some o → h'.get? b = some o) → R (.ok (.ret v)) { s with heap := h', toks := tk }) → codeAny (model prog w) A (.builtin "min.loop" ⟨[.ref I, .none, .ref S], kw⟩) R s := by
  have nw : S ∉ wr := fun z => nf (W.sub _ z)
  intro k; induction k with
  | zero =>
    intro j s vb c hk st hP hS q
    have e : j + 1 = n := by omega
    refine codeAny_builtin F.entry_min_loop ?_; rw [Around.under_plainId F.plain_min_loop _]
    show wpAny _ A.in1 (seqItems? (.ref S) >>= _) _ _ _; refine wpAny_bind (wpAny_seqItems hS rfl ?_)
    show wpAny _ A.in1 (tryCatch (pyNext (.ref I)) _ >>= _) _ _ _; refine wpAny_bind (wpAny_tryCatch (W.done s _ _ (e ▸ st) fun h' tk keep => ?_))
    have hS2 := keep S _ nw hS
    show wpAny _ A.in1 (updateSeq S (fun _ => #[]) >>= _) _ _ _; refine wpAny_bind (wpAny_updateSeq hS2 rfl (wpAny_bind (wpAny_letGo (wpAny_pure ?_))))
    exact q vb _ tk (by rw [← e]; exact hP) fun b o h1 h2 z => (Heap.get?_update_other _ _ (Ne.symm h2)).trans (keep b o h1 z)
  | succ k ih =>
    intro j s vb c hk st hP hS q
    have lt : j + 1 < n := by omega
    refine codeAny_builtin F.entry_min_loop ?_; rw [Around.under_plainId F.plain_min_loop _]
    show wpAny _ A.in1 (seqItems? (.ref S) >>= _) _ _ _; refine wpAny_bind (wpAny_seqItems hS rfl ?_)
    show wpAny _ A.in1 (tryCatch (pyNext (.ref I)) _ >>= _) _ _ _; refine wpAny_bind (wpAny_tryCatch (W.item (j + 1) s _ _ lt st fun v h' tk hv st2 keep => ?_))
    have hS2 := keep S _ nw hS
    show wpAny _ A.in1 (tryCatch (holding [v, v] (richCompare .Lt v vb >>= _)) _ >>= _) _ _ _
    refine wpAny_bind (wpAny_tryCatch (wpAny_holding (wpAny_bind (cm (j + 1) (argBest bt j) v vb _ _ _ hv hP (wpAny_bind (wpAny_holding (wpAny_truthy_bool (wpAny_bind (wpAny_letGo (wpAny_pure ?_)))))))))); cases hb : bt (j + 1) (argBest bt j) with
    | true =>
      simp only [if_true]; refine wpAny_bind (wpAny_updateSeq hS2 rfl (wpAny_bind (wpAny_letGo ?_))); rw [min_nm]
      refine wpAny_pure ⟨plainId_quiet F.plain_min_loop _, ih (j + 1) _ v _ (by omega) (W.frame _ _ _ st2 fun b hf o z => (Heap.get?_update_other _ _ (fun y : S = b => nf (by rw [y]; exact hf))).trans z) (by simp only [argBest, hb, if_true]; exact hv) (Heap.get?_update_self _ hS2 rfl)
        fun v2 h2 tk2 hP2 k2 => q v2 h2 tk2 hP2 fun b o h1 h2 z => k2 b o h1 h2 ((Heap.get?_update_other _ _ (Ne.symm h2)).trans (keep b o h1 z))⟩
    | false =>
      simp only [Bool.false_eq_true, if_false]; refine wpAny_bind (wpAny_letGo ?_); rw [min_nm]
      exact wpAny_pure ⟨plainId_quiet F.plain_min_loop _, ih (j + 1) _ vb c (by omega) st2 (by simp only [argBest, hb, Bool.false_eq_true, if_false]; exact hP) hS2 fun v2 h2 tk2 hP2 k2 => q v2 h2 tk2 hP2 fun b o h1 h2 z => k2 b o h1 h2 (keep b o h1 z)⟩
/-- the first turn -/
theorem min_first (W : Walks prog w A.in1 I fp wr n P St) (cm : CmpOf prog w A.in1 .Lt P bt) (nf : S ∉ fp) {d : Value} {c : Nat} (st : St 0 s.heap) (hS : s.heap.get? S = some { cls := .type "list", dict := none, data := .seq #[] c, slots := #[] })
    (q0 : n = 0 → ∀ h' tk, (∀ b o, b ∉ wr → b ≠ S → s.heap.get? b = some o → h'.get? b = some o) → R (.ok (.ret d)) { s with heap := h', toks := tk })
    (q : 0 < n → ∀ v h' tk, P (argBest bt (n - 1)) v → (∀ b o, b ∉ wr → b ≠ S → s.heap.get? b = some o → h'.get? b = some o) → R (.ok (.ret v)) { s with heap := h', toks := tk }) : codeAny (model prog w) A (.builtin "min.loop" ⟨[.ref I, .none, .ref S], [("default", d)]⟩) R s := by
  have nw : S ∉ wr := fun z => nf (W.sub _ z)
  refine codeAny_builtin F.entry_min_loop ?_; rw [Around.under_plainId F.plain_min_loop _]
  show wpAny _ A.in1 (seqItems? (.ref S) >>= _) _ _ _; refine wpAny_bind (wpAny_seqItems hS rfl ?_)
  show wpAny _ A.in1 (tryCatch (pyNext (.ref I)) _ >>= _) _ _ _
  by_cases hn : n = 0
  · refine wpAny_bind (wpAny_tryCatch (W.done s _ _ (by rw [hn]; exact st) fun h' tk keep => ?_))
    show wpAny _ A.in1 (rule _ >>= _) _ _ _
    exact wpAny_bind (wpAny_rule (wpAny_pure (q0 hn h' tk fun b o h1 _ z => keep b o h1 z)))
  · refine wpAny_bind (wpAny_tryCatch (W.item 0 s _ _ (by omega) st fun v h' tk hv st2 keep => ?_)); have hS2 := keep S _ nw hS
    show wpAny _ A.in1 (updateSeq S (fun _ => #[v, v]) >>= _) _ _ _; refine wpAny_bind (wpAny_updateSeq hS2 rfl ?_); rw [min_nm]
    exact wpAny_pure ⟨plainId_quiet F.plain_min_loop _, min_turns W cm nf (n - 1) 0 _ v _ (by omega) (W.frame _ _ _ st2 fun b hf o z => (Heap.get?_update_other _ _ (fun y : S = b => nf (by rw [y]; exact hf))).trans z) hv (Heap.get?_update_self _ hS2 rfl)
      fun v2 h2 tk2 hP2 k2 => q (by omega) v2 h2 tk2 hP2 fun b o h1 h2 z => k2 b o h1 h2 ((Heap.get?_update_other _ _ (Ne.symm h2)).trans (keep b o h1 z))⟩
/-- min(list of ints, default=d) -/
theorem min_raw {l : Addr} {d : Value} {its : List Value} {ns : List Int} {Q : Value → Shared → Prop} (hh : A.handled = none) (hl : s.heap.IsList l its.toArray) (hi : IntsAre its ns)
    (q0 : ns = [] → ∀ h' tk, (∀ b o, s.heap.get? b = some o → h'.get? b = some o) → Q d { s with heap := h', toks := tk })
    (q : ∀ h' tk M t', (∀ b o, s.heap.get? b = some o → h'.get? b = some o) → M ∈ ns → (∀ a, a ∈ ns → M ≤ a) → Q (.int M t') { s with heap := h', toks := tk }) : wpAny (model prog w) A (call (.builtin "min") [.ref l] [(Str.ofString "default", d)]) Q E s := by
  obtain ⟨xs, e⟩ := hi.allInts.items
  have hn : numsOf (intItems xs).toList = ns := by rw [← e]; exact hi.numsOf
  rw [nums_intItems] at hn; subst hn; rw [e] at hl
  refine PyProof.Rows.kmk_tree F.kind_min F.plain_min F.entry_min (min_args _ _) ?_
  show wpAny _ A.in1 (Builtin.Builtins.bindParams "min" ["key", "default"] 0 ⟨[], [(Str.ofString "default", d)]⟩ >>= _) _ _ s
  refine wpAny_bind (wpAny_of_eq (show Builtin.Builtins.bindParams "min" ["key", "default"] 0 ⟨[], [(Str.ofString "default", d)]⟩ = pure [none, some d] from rfl) (wpAny_bind (wpAny_pure (wpAny_bind (iter_intList hl fun s2 e2 st hfp hlI => ?_)))))
  subst e2; refine wpAny_bind (wpAny_newObj_type ?_); rw [min_nm]
  have nf : (s.heap.push { cls := .type "list_iterator", data := .fields #[.ref l, .int 0 0] }).objs.size ∉ [s.heap.objs.size, l] := fun hm => Nat.lt_irrefl _ (hfp _ hm)
  have W := Walks.list (prog := prog) (w := w) (A := A.in1) hh s.heap.objs.size l hlI (intItems xs)
  have hsz : (intItems xs).size = xs.size := by simp [intItems]
  refine wpAny_pure ⟨plainId_quiet F.plain_min_loop _, min_first W (CmpOf.ints_lt (numAt xs) (fun _ _ => intItems_at)) nf (W.frame _ _ _ st fun b _ o z => Heap.get?_push_of_some _ z) (Heap.get?_push_size _ rfl) (fun h0 h' tk k => ?_) fun h0 v h' tk hP k => ?_⟩
  · exact q0 (by rw [hsz] at h0; rw [List.map_eq_nil_iff]; exact List.eq_nil_of_length_eq_zero (by rw [Array.length_toList]; exact h0)) h' tk (old_kept fun b o hb z => k b o hb (Nat.ne_of_lt (Heap.lt_size z)) (Heap.get?_push_of_some _ z))
  · obtain ⟨t, rfl⟩ := intItems_at hP
    obtain ⟨h1, h2⟩ := argBest_lt (numAt xs) ((intItems xs).size - 1); rw [hsz] at h0
    refine q h' tk _ t (old_kept fun b o hb z => k b o hb (Nat.ne_of_lt (Heap.lt_size z)) (Heap.get?_push_of_some _ z)) ?_ fun a ha => ?_
    · rw [numAt_eq]; exact PySem.getD_mem (by rw [List.length_map, Array.length_toList]; omega)
    · obtain ⟨j, hj, rfl⟩ := PySem.mem_getD ha; rw [List.length_map, Array.length_toList] at hj; rw [← numAt_eq]; exact h2 j (by omega)
end
theorem max_args (a v : Value) : argsOk "max" ⟨[a], [(Str.ofString "default", v)]⟩ := by (unfold argsOk); kernel_rfl
section
variable {prog : Program} {w : World} {A : Around} {R : Result → Shared → Prop} {E : Value → Shared → Prop} {I S : Addr} {fp wr : List Addr} {n : Nat} {P : Nat → Value → Prop} {St : Nat → Heap → Prop} {kw : List (Str × Value)} {bt : Nat → Nat → Bool} {s : Shared}
theorem max_nm : (toString "max" ++ toString ".loop" : String) = "max.loop" := by (decide)
/-- the turns behind the first one, whatever the call's keywords -/
theorem max_turns (W : Walks prog w A.in1 I fp wr n P St) (cm : CmpOf prog w A.in1 .Gt P bt) (nf : S ∉ fp) :
    ∀ (k j : Nat) (s : Shared) (vb : Value) (c : Nat), n = j + 1 + k → St (j + 1) s.heap → P (argBest bt j) vb → s.heap.get? S = some { cls := .type "list", dict := none, data := .seq #[vb, vb] c, slots := #[] } →
      (∀ v h' tk, P (argBest bt (n - 1)) v → (∀ b o, b ∉ wr → b ≠ S → s.heap.get? b = some o → h'.get? b = some o) → R (.ok (.ret v)) { s with heap := h', toks := tk }) → codeAny (model prog w) A (.builtin "max.loop" ⟨[.ref I, .none, .ref S], kw⟩) R s := by
  have nw : S ∉ wr := fun z => nf (W.sub _ z)
  intro k; induction k with
  | zero =>
    intro j s vb c hk st hP hS q
    have e : j + 1 = n := by omega
    refine codeAny_builtin F.entry_max_loop ?_; rw [Around.under_plainId F.plain_max_loop _]
    show wpAny _ A.in1 (seqItems? (.ref S) >>= _) _ _ _; refine wpAny_bind (wpAny_seqItems hS rfl ?_)
    show wpAny _ A.in1 (tryCatch (pyNext (.ref I)) _ >>= _) _ _ _; refine wpAny_bind (wpAny_tryCatch (W.done s _ _ (e ▸ st) fun h' tk keep => ?_))
    have hS2 := keep S _ nw hS
    show wpAny _ A.in1 (updateSeq S (fun _ => #[]) >>= _) _ _ _; refine wpAny_bind (wpAny_updateSeq hS2 rfl (wpAny_bind (wpAny_letGo (wpAny_pure ?_))))
    exact q vb _ tk (by rw [← e]; exact hP) fun b o h1 h2 z => (Heap.get?_update_other _ _ (Ne.symm h2)).trans (keep b o h1 z)
  | succ k ih =>
    intro j s vb c hk st hP hS q
    have lt : j + 1 < n := by omega
    refine codeAny_builtin F.entry_max_loop ?_; rw [Around.under_plainId F.plain_max_loop _]
    show wpAny _ A.in1 (seqItems? (.ref S) >>= _) _ _ _; refine wpAny_bind (wpAny_seqItems hS rfl ?_)
    show wpAny _ A.in1 (tryCatch (pyNext (.ref I)) _ >>= _) _ _ _; refine wpAny_bind (wpAny_tryCatch (W.item (j + 1) s _ _ lt st fun v h' tk hv st2 keep => ?_))
    have hS2 := keep S _ nw hS
    show wpAny _ A.in1 (tryCatch (holding [v, v] (richCompare .Gt v vb >>= _)) _ >>= _) _ _ _
    refine wpAny_bind (wpAny_tryCatch (wpAny_holding (wpAny_bind (cm (j + 1) (argBest bt j) v vb _ _ _ hv hP (wpAny_bind (wpAny_holding (wpAny_truthy_bool (wpAny_bind (wpAny_letGo (wpAny_pure ?_)))))))))); cases hb : bt (j + 1) (argBest bt j) with
    | true =>
      simp only [if_true]; refine wpAny_bind (wpAny_updateSeq hS2 rfl (wpAny_bind (wpAny_letGo ?_))); rw [max_nm]
      refine wpAny_pure ⟨plainId_quiet F.plain_max_loop _, ih (j + 1) _ v _ (by omega) (W.frame _ _ _ st2 fun b hf o z => (Heap.get?_update_other _ _ (fun y : S = b => nf (by rw [y]; exact hf))).trans z) (by simp only [argBest, hb, if_true]; exact hv) (Heap.get?_update_self _ hS2 rfl)
        fun v2 h2 tk2 hP2 k2 => q v2 h2 tk2 hP2 fun b o h1 h2 z => k2 b o h1 h2 ((Heap.get?_update_other _ _ (Ne.symm h2)).trans (keep b o h1 z))⟩
    | false =>
      simp only [Bool.false_eq_true, if_false]; refine wpAny_bind (wpAny_letGo ?_); rw [max_nm]
      exact wpAny_pure ⟨plainId_quiet F.plain_max_loop _, ih (j + 1) _ vb c (by omega) st2 (by simp only [argBest, hb, Bool.false_eq_true, if_false]; exact hP) hS2 fun v2 h2 tk2 hP2 k2 => q v2 h2 tk2 hP2 fun b o h1 h2 z => k2 b o h1 h2 (keep b o h1 z)⟩
/-- the first turn -/
theorem max_first (W : Walks prog w A.in1 I fp wr n P St) (cm : CmpOf prog w A.in1 .Gt P bt) (nf : S ∉ fp) {d : Value} {c : Nat} (st : St 0 s.heap) (hS : s.heap.get? S = some { cls := .type "list", dict := none, data := .seq #[] c, slots := #[] })
    (q0 : n = 0 → ∀ h' tk, (∀ b o, b ∉ wr → b ≠ S → s.heap.get? b = some o → h'.get? b = some o) → R (.ok (.ret d)) { s with heap := h', toks := tk })
    (q : 0 < n → ∀ v h' tk, P (argBest bt (n - 1)) v → (∀ b o, b ∉ wr → b ≠ S → s.heap.get? b = some o → h'.get? b = some o) → R (.ok (.ret v)) { s with heap := h', toks := tk }) : codeAny (model prog w) A (.builtin "max.loop" ⟨[.ref I, .none, .ref S], [("default", d)]⟩) R s := by
  have nw : S ∉ wr := fun z => nf (W.sub _ z)
  refine codeAny_builtin F.entry_max_loop ?_; rw [Around.under_plainId F.plain_max_loop _]
  show wpAny _ A.in1 (seqItems? (.ref S) >>= _) _ _ _; refine wpAny_bind (wpAny_seqItems hS rfl ?_)
  show wpAny _ A.in1 (tryCatch (pyNext (.ref I)) _ >>= _) _ _ _
  by_cases hn : n = 0
  · refine wpAny_bind (wpAny_tryCatch (W.done s _ _ (by rw [hn]; exact st) fun h' tk keep => ?_))
    show wpAny _ A.in1 (rule _ >>= _) _ _ _
    exact wpAny_bind (wpAny_rule (wpAny_pure (q0 hn h' tk fun b o h1 _ z => keep b o h1 z)))
  · refine wpAny_bind (wpAny_tryCatch (W.item 0 s _ _ (by omega) st fun v h' tk hv st2 keep => ?_)); have hS2 := keep S _ nw hS
    show wpAny _ A.in1 (updateSeq S (fun _ => #[v, v]) >>= _) _ _ _; refine wpAny_bind (wpAny_updateSeq hS2 rfl ?_); rw [max_nm]
    exact wpAny_pure ⟨plainId_quiet F.plain_max_loop _, max_turns W cm nf (n - 1) 0 _ v _ (by omega) (W.frame _ _ _ st2 fun b hf o z => (Heap.get?_update_other _ _ (fun y : S = b => nf (by rw [y]; exact hf))).trans z) hv (Heap.get?_update_self _ hS2 rfl)
      fun v2 h2 tk2 hP2 k2 => q (by omega) v2 h2 tk2 hP2 fun b o h1 h2 z => k2 b o h1 h2 ((Heap.get?_update_other _ _ (Ne.symm h2)).trans (keep b o h1 z))⟩
/-- max(list of ints, default=d) -/
theorem max_raw {l : Addr} {d : Value} {its : List Value} {ns : List Int} {Q : Value → Shared → Prop} (hh : A.handled = none) (hl : s.heap.IsList l its.toArray) (hi : IntsAre its ns)
    (q0 : ns = [] → ∀ h' tk, (∀ b o, s.heap.get? b = some o → h'.get? b = some o) → Q d { s with heap := h', toks := tk })
    (q : ∀ h' tk M t', (∀ b o, s.heap.get? b = some o → h'.get? b = some o) → M ∈ ns → (∀ a, a ∈ ns → a ≤ M) → Q (.int M t') { s with heap := h', toks := tk }) : wpAny (model prog w) A (call (.builtin "max") [.ref l] [(Str.ofString "default", d)]) Q E s := by
  obtain ⟨xs, e⟩ := hi.allInts.items
  have hn : numsOf (intItems xs).toList = ns := by rw [← e]; exact hi.numsOf
  rw [nums_intItems] at hn; subst hn; rw [e] at hl
  refine PyProof.Rows.kmk_tree F.kind_max F.plain_max F.entry_max (max_args _ _) ?_
  show wpAny _ A.in1 (Builtin.Builtins.bindParams "max" ["key", "default"] 0 ⟨[], [(Str.ofString "default", d)]⟩ >>= _) _ _ s
  refine wpAny_bind (wpAny_of_eq (show Builtin.Builtins.bindParams "max" ["key", "default"] 0 ⟨[], [(Str.ofString "default", d)]⟩ = pure [none, some d] from rfl) (wpAny_bind (wpAny_pure (wpAny_bind (iter_intList hl fun s2 e2 st hfp hlI => ?_)))))
  subst e2; refine wpAny_bind (wpAny_newObj_type ?_); rw [max_nm]
  have nf : (s.heap.push { cls := .type "list_iterator", data := .fields #[.ref l, .int 0 0] }).objs.size ∉ [s.heap.objs.size, l] := fun hm => Nat.lt_irrefl _ (hfp _ hm)
  have W := Walks.list (prog := prog) (w := w) (A := A.in1) hh s.heap.objs.size l hlI (intItems xs)
  have hsz : (intItems xs).size = xs.size := by simp [intItems]
  refine wpAny_pure ⟨plainId_quiet F.plain_max_loop _, max_first W (CmpOf.ints_gt (numAt xs) (fun _ _ => intItems_at)) nf (W.frame _ _ _ st fun b _ o z => Heap.get?_push_of_some _ z) (Heap.get?_push_size _ rfl) (fun h0 h' tk k => ?_) fun h0 v h' tk hP k => ?_⟩
  · exact q0 (by rw [hsz] at h0; rw [List.map_eq_nil_iff]; exact List.eq_nil_of_length_eq_zero (by rw [Array.length_toList]; exact h0)) h' tk (old_kept fun b o hb z => k b o hb (Nat.ne_of_lt (Heap.lt_size z)) (Heap.get?_push_of_some _ z))
  · obtain ⟨t, rfl⟩ := intItems_at hP
    obtain ⟨h1, h2⟩ := argBest_gt (numAt xs) ((intItems xs).size - 1); rw [hsz] at h0
    refine q h' tk _ t (old_kept fun b o hb z => k b o hb (Nat.ne_of_lt (Heap.lt_size z)) (Heap.get?_push_of_some _ z)) ?_ fun a ha => ?_
    · rw [numAt_eq]; exact PySem.getD_mem (by rw [List.length_map, Array.length_toList]; omega)
    · obtain ⟨j, hj, rfl⟩ := PySem.mem_getD ha; rw [List.length_map, Array.length_toList] at hj; rw [← numAt_eq]; exact h2 j (by omega)
end
end RB
namespace RB
open PySem
section
variable {prog : Program} {w : World} {K : Type} [DecidableEq K] {knd : KeyKind prog w K} {A : Around} {E : Value → Shared → Prop} {s : Shared}
theorem put_at {d : Addr} {kvs : List (K × Value)} {k : K} {key v : Value} {Q : Unit → Shared → Prop} (hkey : knd.is k key = true) (hm : s.heap.DictOf knd d kvs) (hsz : kvs.length ≤ sizeLine)
    (q : ∀ h', h'.DictOf knd d (stored kvs k v) → Heap.SameBut d s.heap h' → Q () { s with heap := h' }) : wpAny (model prog w) A (dictPut d (knd.hash k) key v) Q E s := by
  obtain ⟨o, es, ep, ho, hc, hd, hk, hp, hn⟩ := hm
  have hes : es.size ≤ sizeLine := by have e1 := hp.length; rw [Array.length_toList] at e1; omega
  unfold dictPut
  refine wpAny_bind (wpAny_dictFind_of hkey ho hd hk ?_)
  have hidx : (es.findIdx? fun e => knd.is k e.key) = kvs.findIdx? fun kv => decide (kv.1 = k) := by (rw [← hp.findIdx k]); obtain ⟨l⟩ := es; simp
  cases hi : es.findIdx? fun e => knd.is k e.key with
  | some i =>
    have ha := any_of_findIdx_some (hidx ▸ hi)
    refine wpAny_updateDict ho hd (q _ ⟨_, _, ep, Heap.get?_update_self _ ho (Obj.isFreed_of_dict (Obj.data_mapDict hd _)), hc.mapDict _, Obj.data_mapDict hd _, hk.modify _ _, ?_, ?_⟩ (Heap.SameBut.update ..))
    · rw [stored, if_pos ha]
      have hl : (es.toList.findIdx? fun e => knd.is k e.key) = some i := by (rw [← hi]); obtain ⟨l⟩ := es; simp
      have z := hp.modify hn hl v
      obtain ⟨l⟩ := es; simpa using z
    · rw [stored, if_pos ha, keys_map_store]; exact hn
  | none =>
    have hnot : k ∉ kvs.map (·.1) := (not_mem_of_findIdx_none (hidx ▸ hi))
    have ha : ¬ (kvs.any fun kv => decide (kv.1 = k)) = true := fun z => by
      obtain ⟨kv, hkv, he⟩ := List.any_eq_true.mp z
      exact hnot (List.mem_map.mpr ⟨kv, hkv, of_decide_eq_true he⟩)
    refine wpAny_updateDictKeys (hz := hes) ho hd (q _ ⟨_, _, ep + 1, Heap.get?_update_self _ ho (Obj.isFreed_of_dict (Obj.data_mapDictKeys hd _)), hc.mapDictKeys _, Obj.data_mapDictKeys hd _, hk.push hkey _, ?_, ?_⟩ (Heap.SameBut.update ..))
    · rw [stored, if_neg ha]
      have z := hp.append hkey (knd.hash k) v
      obtain ⟨l⟩ := es; simpa using z
    · rw [stored, if_neg ha, List.map_append]
      refine List.nodup_append.mpr ⟨hn, List.nodup_cons.mpr ⟨List.not_mem_nil, List.nodup_nil⟩, fun a ha b hb e => ?_⟩
      rw [List.map_singleton, List.mem_singleton] at hb; rw [e, hb] at ha; exact hnot ha
/-- ** of a plain dict, in a display -/
theorem merge_map {d o : Addr} {kvs more : List (K × Value)} {Q : Unit → Shared → Prop} (hdo : d ≠ o) (hoS : (o == sysModules) = false) (hd : s.heap.DictOf knd d kvs) (ho : s.heap.DictOf knd o more) (hsz : kvs.length + more.length ≤ sizeLine)
    (q : ∀ h', h'.DictOf knd d (merged kvs more) → h'.DictOf knd o more → Heap.SameBut d s.heap h' → Q () { s with heap := h' }) : wpAny (model prog w) A (mergeMapping d (.ref o) false) Q E s := by
  obtain ⟨od, esd, epd, hod, hcd, hdd, hkd, hpd, hnd⟩ := id hd
  obtain ⟨oo, eso, epo, hoo, hco, hdo', hko, hpo, hno⟩ := id ho
  have hlen : more.length = eso.size := by rw [← hpo.length, Array.length_toList]
  have loop : wpAny (model prog w) A (do
      let size := (← dictEntries o).size
      let epoch ← dictEpoch o
      forIn (List.range size) PUnit.unit fun i (_ : PUnit) => (do
        match (← dictEntries o)[i]? with
        | some e => do
          holding [e.key, e.val] (dictPut d e.hash e.key e.val)
          if ((← dictEpoch o) != epoch) = true then do
            (unsupported "dict.changed-during-merge" : Sem PUnit)
            pure (ForInStep.yield PUnit.unit)
          else pure (ForInStep.yield PUnit.unit)
        | _ => do
          (unsupported "dict.changed-during-merge" : Sem PUnit)
          pure (ForInStep.yield PUnit.unit) : Sem (ForInStep PUnit))
      pure ()) Q E s := by
    refine wpAny_bind (wpAny_dictEntries hoo hdo' (wpAny_bind (wpAny_dictEpoch hoo hdo' (wpAny_bind ?_))))
    refine wpAny_forIn_list _ (fun rest _ s' => ∃ h' i, s' = { s with heap := h' } ∧ rest = List.range' i (eso.size - i) ∧ i ≤ eso.size ∧ h'.DictOf knd d (merged kvs (more.take i)) ∧ h'.get? o = some oo ∧ Heap.SameBut d s.heap h') _ ?_ ?_ _ _
      ⟨s.heap, 0, rfl, by rw [List.range_eq_range', Nat.sub_zero], Nat.zero_le _, by simpa [merged] using hd, hoo, Heap.SameBut.refl _ _⟩
    · rintro x rest b s' ⟨h', i, rfl, hr, hi, hd2, hoo2, hs2⟩
      have lt : i < eso.size := (Nat.lt_or_ge i eso.size).elim id fun z => by (rw [Nat.sub_eq_zero_of_le z] at hr); cases hr
      rw [show eso.size - i = (eso.size - (i + 1)) + 1 by omega, List.range'_succ] at hr
      obtain ⟨rfl, rfl⟩ := List.cons.inj hr
      refine wpAny_bind (wpAny_dictEntries hoo2 hdo' ?_)
      rw [Array.getElem?_eq_getElem lt]
      have hx : x < more.length := by omega
      obtain ⟨hkey, hval⟩ := hpo.get? (e := eso[x]) (by simp [lt]) (List.getElem?_eq_getElem hx)
      obtain ⟨k', hkey', hhash⟩ := hko eso[x] (Array.getElem_mem lt)
      obtain rfl : k' = more[x].1 := knd.inj _ _ _ hkey' hkey
      show wpAny _ _ (holding [eso[x].key, eso[x].val] (dictPut d eso[x].hash eso[x].key eso[x].val) >>= _) _ _ _
      rw [hhash, hval]
      have hz : (merged kvs (more.take x)).length ≤ sizeLine := by
        have e1 := merged_length_le kvs (more.take x)
        rw [List.length_take] at e1; omega
      refine wpAny_bind (wpAny_holding (put_at hkey hd2 hz fun h3 hd3 hs3 => ?_))
      have hoo3 : h3.get? o = some oo := (hs3.2 o (Ne.symm hdo)).trans hoo2
      refine wpAny_bind (wpAny_dictEpoch hoo3 hdo' ?_)
      rw [if_neg (by simp)]
      exact wpAny_pure ⟨h3, x + 1, rfl, rfl, lt, by rw [merged_take_succ kvs more x _ (List.getElem?_eq_getElem hx)]; exact hd3, hoo3, hs2.trans hs3⟩
    · rintro b s' ⟨h', i, rfl, hr, hi, hd2, hoo2, hs2⟩
      have hin : i = eso.size := by
        rcases Nat.lt_or_ge i eso.size with z | z
        · rw [show eso.size - i = (eso.size - (i + 1)) + 1 by omega, List.range'_succ] at hr
          cases hr
        · exact Nat.le_antisymm hi z
      rw [hin, ← hlen, List.take_length] at hd2
      exact wpAny_pure (q h' hd2 ⟨oo, eso, epo, hoo2, hco, hdo', hko, hpo, hno⟩ hs2)
  unfold mergeMapping
  refine wpAny_bind ?_
  refine wpAny_isInstance ho.typeIs isSubtype_dict_dict ?_
  simp only [if_true]
  refine wpAny_bind (wpAny_specialOf ho.typeIs F.slot_dict_iter.lookup (wpAny_bind (wpAny_pure ?_)))
  simp only [beq_self_eq_true, hoS, Bool.false_eq_true, if_false]
  refine wpAny_bind (wpAny_dictEntries hod hdd ?_)
  by_cases he : esd.isEmpty = true
  · rw [if_pos he]
    refine wpAny_bind (wpAny_dictEntries hoo hdo' (wpAny_bind (wpAny_of_eq (a := PUnit.unit) ?_ loop)))
    rw [← Array.forIn_toList]
    refine forIn_yield_id _ fun e hm c => ?_
    obtain ⟨k, hkey, _⟩ := hko e (Array.mem_toList_iff.mp hm)
    have z := knd.byValue k _ hkey
    cases hv : e.key <;> first | rfl | (rw [hv] at z; exact absurd z Bool.false_ne_true)
  · rw [if_neg he]
    exact loop
end
end RB

/-! rules of ours: d.update(e), {**a, **b}, min and max of a list with a default -/
namespace RH
open PySem PySem.Spec PyProof.Rows L2
/-- d.update(e) of two dicts -/
def rUpd : V → List V → Hp → VK → Prop := fun x xs H Q => ∃ (a b : Addr) (kvs lvs : List (Key × V)), x = .ref a ∧ xs = [.ref b] ∧ H a = some (.dK kvs) ∧ Rd H b (.dK lvs) ∧ a ≠ b ∧ kvs.length + lvs.length ≤ sizeLine ∧ Q .non (upd H a (.dK (mergeK kvs lvs)))
theorem mt_update {X : Cx} : MtR X "dict.update" rUpd := by
  intro pins s σ H x xs v us Q I rx rxs h
  obtain ⟨a, b, kvs, lvs, rfl, rfl, ha, hb, ne, z, q⟩ := h
  cases rx
  obtain rfl := Vals.ref1 rxs
  obtain ⟨z1, lo1, va, ra, da⟩ := dk_of I.hok ha
  obtain ⟨z2, lo2, vb, rb, db⟩ := dk_rd I.hok hb
  refine call_meetsIn F.slot_dict_update da.typeIs F.entry_dict_update (F.args_dict_update_2 _ _) (meets_dict_update (mixKind X.prog X.w) a b ne lo2)
    ⟨va, vb, da, db, (by rw [← ra.length, ← rb.length]; exact z), fun h' hm _ hs => ?_⟩
  have hz : (mergeK kvs lvs).length ≤ sizeLine := Nat.le_trans (length_mergeK lvs kvs) z
  have he : ∃ q, h'.get? a = some q := let ⟨q, _, _, hq, _⟩ := hm; ⟨q, hq⟩
  exact ⟨.non, _, d_write (t' := s.toks) I (by rw [ha]; exact True.intro) hs he (dk_new hz lo1 (rb.merge ra) hm), rfl, q⟩
/-- a dict merged into the one at p -/
def tStar (p : Addr) (ta : TE) (Q : Hp → Prop) (σ : L2.St) (H : Hp) : Prop := ta σ H fun y H2 => ∃ r acc lvs, y = .ref r ∧ H2 p = some (.dK acc) ∧ Rd H2 r (.dK lvs) ∧ p ≠ r ∧ acc.length + lvs.length ≤ sizeLine ∧ Q (upd H2 p (.dK (mergeK acc lvs)))
/-- {**a, **b}: the new dict stands while the two are made -/
def tDD (ta tb : TE) : TE := fun σ H Q => ∀ p, H p = none → tStar p ta (tStar p tb (Q (.ref p)) σ) σ (upd H p (.dK []))
theorem dd_eq (va vb : Sem Value) : dictDisplay [(none, va), (none, vb)] = (do
    let d ← alloc { cls := .type "dict", data := .dict #[] }
    let X := fun (v : Sem Value) => (do
      let m ← holding [.ref d] v
      (((holding [.ref d, m] (mergeMapping d m false)).onRaise fun x => do let _ ← holding [.ref d, m, x] (runValue (.builtin "proto.let_go" {}))).tryCatch fun e => do
        if ← isInstance e (.type "AttributeError") then
          rule "dict.display.not-a-mapping"; raiseError "TypeError" s!"'{← typeNameOf m}' object is not a mapping"
        throw e).onRaise fun x => do let _ ← holding [.ref d, x] (runValue (.builtin "proto.let_go" {})) : Sem Unit)
    X va
    X vb
    pure (.ref d)) := by
  unfold dictDisplay
  simp
/-- one ** of such a display -/
abbrev stepD (d : Addr) (v : Sem Value) : Sem Unit := do
  let m ← holding [.ref d] v
  (((holding [.ref d, m] (mergeMapping d m false)).onRaise fun x => do let _ ← holding [.ref d, m, x] (runValue (.builtin "proto.let_go" {}))).tryCatch fun e => do
    if ← isInstance e (.type "AttributeError") then
      rule "dict.display.not-a-mapping"; raiseError "TypeError" s!"'{← typeNameOf m}' object is not a mapping"
    throw e).onRaise fun x => do let _ ← holding [.ref d, x] (runValue (.builtin "proto.let_go" {}))
section
variable {X : Cx} {a b : Expr} {ta tb : TE} {pos : Pos} {pins : List (Addr × Obj)} {s : Shared} {σ : L2.St} {H : Hp}
theorem dd_step {d : Addr} {Q2 : Hp → Prop} {Z : Unit → Shared → Prop} (ha : PE X a ta) (I : Inv X pins σ H s)
    (h : tStar d ta Q2 σ H) (k : ∀ s' H', Inv X pins σ H' s' → Q2 H' → Z () s') :
    wpAny (model X.prog X.w) X.A (stepD d (do let x ← eval a X.env; standAt pos; pure x)) Z X.xe s := by
  refine wpAny_bind (wpAny_holding (wpAny_bind (thn (ha.run pins s σ H _ I h) fun u s1 ⟨y, H2, I2, ry, r, acc, lvs, ey, h1, h2, ne, z, q⟩ => ?_)))
  subst ey
  obtain rfl : u = Value.ref r := ry
  refine wpAny_bind (wpAny_standAt (wpAny_pure ?_))
  obtain ⟨z1, lo1, va, ra, da⟩ := dk_of I2.hok h1
  obtain ⟨z2, lo2, vb, rb, db⟩ := dk_rd I2.hok h2
  refine wpAny_onRaise (wpAny_tryCatch (wpAny_onRaise (wpAny_holding (RB.merge_map ne lo2 da db (by rw [← ra.length, ← rb.length]; exact z) fun h' hm _ hs => ?_))))
  have hz : (mergeK acc lvs).length ≤ sizeLine := Nat.le_trans (length_mergeK lvs acc) z
  have he : ∃ q, h'.get? d = some q := let ⟨q, _, _, hq, _⟩ := hm; ⟨q, hq⟩
  exact k _ _ (d_write (t' := s1.toks) I2 (by rw [h1]; exact True.intro) hs he (dk_new hz lo1 (rb.merge ra) hm)) q
theorem pe_dd (ha : PE X a ta) (hb : PE X b tb) (he : evalEachOpt [none, none] X.env = [none, none] := by rfl) (hv : evalEach [a, b] X.env = [eval a X.env, eval b X.env] := by rfl) : PE X (.Dict [none, none] [a, b] pos) (tDD ta tb) := by
  refine ⟨fun pins s σ H Q I q => ?_⟩
  rw [arm_eval_Dict, he, hv]
  refine wpAny_bind (wpAny_standAt ?_)
  show wpAny _ _ (dictDisplay [(none, do let x ← eval a X.env; standAt pos; pure x), (none, do let x ← eval b X.env; standAt pos; pure x)]) _ _ _
  rw [dd_eq]
  have hn := I.hok.fresh (Nat.le_refl s.heap.objs.size)
  have I1 := I.laid (a := s.heap.objs.size) (o := .dK []) (h' := s.heap.push { cls := .type "dict", data := .dict #[] }) (t' := s.toks) (fun _ _ q => Heap.get?_push_of_some _ q) (Nat.le_refl _) (dk_empty s.heap I.big)
  refine wpAny_bind (wpAny_alloc ?_)
  refine wpAny_bind (dd_step (d := s.heap.objs.size) ha I1 (q _ hn) fun s1 H1 J1 q1 => ?_)
  refine wpAny_bind (dd_step (d := s.heap.objs.size) hb J1 q1 fun s2 H2 J2 q2 => ?_)
  exact wpAny_pure ⟨.ref _, H2, J2, rfl, q2⟩
/-! ### min, max with a default -/
def rMinD (K : PySem.W.Frag) : List V → List V → Hp → VK → Prop := fun vs zs H Q => ∃ (a : Addr) (ns : List Int) (z : V), vs = [V.ref a] ∧ zs = [z] ∧ SqL K H a (ns.map V.int) ∧ (ns = [] → Q z H) ∧ ∀ m, m ∈ ns → (∀ y, y ∈ ns → m ≤ y) → Q (.int m) H
def rMaxD (K : PySem.W.Frag) : List V → List V → Hp → VK → Prop := fun vs zs H Q => ∃ (a : Addr) (ns : List Int) (z : V), vs = [V.ref a] ∧ zs = [z] ∧ SqL K H a (ns.map V.int) ∧ (ns = [] → Q z H) ∧ ∀ m, m ∈ ns → (∀ y, y ∈ ns → y ≤ m) → Q (.int m) H
theorem cr_minD (hc : X.calm = true) : CallRK X (.builtin "min") [Str.ofString "default"] (rMinD X.K) := by
  intro pins s σ H vs zs us ws Q I r rz h
  obtain ⟨a, ns, z, rfl, rfl, hs, q0, q⟩ := h
  obtain ⟨its, rv, hl, _⟩ := I.list hs
  obtain rfl := Vals.ref1 r
  obtain ⟨d, rfl, rd⟩ := vals1 rz
  exact RB.min_raw (I.ok.hd hc) hl.isList rv.ints (fun e h' tk k => ⟨z, H, I.kept k, rd, q0 e⟩) fun h' tk m t' k h1 h2 => ⟨.int m, H, I.kept k, ⟨_, rfl⟩, q m h1 h2⟩
theorem cr_maxD (hc : X.calm = true) : CallRK X (.builtin "max") [Str.ofString "default"] (rMaxD X.K) := by
  intro pins s σ H vs zs us ws Q I r rz h
  obtain ⟨a, ns, z, rfl, rfl, hs, q0, q⟩ := h
  obtain ⟨its, rv, hl, _⟩ := I.list hs
  obtain rfl := Vals.ref1 r
  obtain ⟨d, rfl, rd⟩ := vals1 rz
  exact RB.max_raw (I.ok.hd hc) hl.isList rv.ints (fun e h' tk k => ⟨z, H, I.kept k, rd, q0 e⟩) fun h' tk m t' k h1 h2 => ⟨.int m, H, I.kept k, ⟨_, rfl⟩, q m h1 h2⟩
end
end RH

/-! dict comprehensions: y = {..}; over any walk; what they come to -/
namespace DC
open PySem PySem.Spec PyProof.Rows L2 Evl HB MB HW HI HJ
section
variable {X : Cx}
/-- y = {k: v for ..} on one line, y a local -/
theorem ps_setDc {i : Nat} {y : Str} {py : Pos} {kx vx tg iter : Expr} {ifs : List Expr} {scope : Scope} {own : List (Str × Nat)} {pos spos : Pos} {wi : TI} {g : TG} {tt : TT} {tk tv : TE} (hc : X.calm = true) (hN : X.N.Nodup) (hy : X.N[i]? = some y) (hl : X.env.scope.names.lookup y = some .local)
    (sw : swapsWith (.DictComp kx vx [⟨tg, iter, ifs, 0⟩] scope pos) (some (.Name y py)) spos.line X.env = pure true) (hi : PI X tg iter wi) (ok : BlkOk X.N X.env.scope scope own)
    (hg : ∀ (s : Shared) (H : Hp) (C : Addr) (cl : List (Str × Addr)) (fp : List Addr), PG (X.blk s H scope (compEnvC scope cl C X.env) fp) tg g)
    (ht : ∀ (s : Shared) (H : Hp) (C : Addr) (cl : List (Str × Addr)) (fp : List Addr), PTs (X.blk s H scope (compEnvC scope cl C X.env) fp) ifs tt)
    (hk : ∀ (s : Shared) (H : Hp) (C : Addr) (cl : List (Str × Addr)) (fp : List Addr), PE (X.blk s H scope (compEnvC scope cl C X.env) fp) kx tk) (hv : ∀ (s : Shared) (H : Hp) (C : Addr) (cl : List (Str × Addr)) (fp : List Addr), PE (X.blk s H scope (compEnvC scope cl C X.env) fp) vx tv) (hs : ∀ x, foldedSetIterable iter X.env x = pure x := by intro _; rfl) :
    PS X (.Assign [.Name y py] (.DictComp kx vx [⟨tg, iter, ifs, 0⟩] scope pos) spos) (tAsg (tDc wi g tt tk tv (own.map (·.2))) (gName i)) := by
  refine ⟨fun pins s σ H D I h => ?_⟩
  rw [exec_Assign_Name_used _ _ _ _ sw]
  refine wpAny_bind (wpAny_standAt (wpAny_bind ?_))
  show wpAny _ X.A (do let _ ← comprehension (.DictComp kx vx [⟨tg, iter, ifs, 0⟩] scope pos) scope X.env (firstIterPos [⟨tg, iter, ifs, 0⟩] pos) newDict false (eval iter X.env) (some (assign (.Name y py) X.env))) _ _ s
  have h : tDc wi g tt tk tv (own.map (·.2)) σ H (fun x H1 => gName i x σ H1 D.nx) := (h)
  refine wpAny_bind (thn (dc_core (Qf := fun _ s' => SP X pins D .next s') hc hN I hi ok hg ht hk hv hs h fun L C s' m H' I' q hn f => ?_) fun _ s' hq => wpAny_pure (wpAny_pure hq))
  show wpAny _ _ (assign (.Name y py) X.env (.ref L)) _ _ _
  refine wpAny_assign_Name (store_ok2 (v := V.ref L) I' hN hy (.inl hl) rfl (fun s2 I2 ⟨a, sb, ha⟩ => ?_) (.inr hl))
  obtain ⟨f0, f1, f2, f3, f4, f5⟩ := f
  have ne : C ≠ a := ha.elim (fun z => by rw [z]; exact f1) fun z e => f4 y a z e.symm
  exact ⟨m, hn.sameBut sb ne, fun h3 sb3 => ⟨_, H', I2.turned (t' := s2.toks) (fun b o hb e => (sb3.2 b hb).trans e) f0 f1 f3 f4 f5, q⟩⟩
theorem swD {kx vx : Expr} {gs : List Comprehension} {scope : Scope} {pos py : Pos} {y : Str} {l : Nat} {env : Env} (hk : env.scope.kind = .function) (hy : env.scope.names.lookup y = some .local) (hl : (py.line == pos.line) = true)
    (ha : (scope.names.any fun (n, k) => n == y && (k == .local || k == .cell)) = false) : swapsWith (.DictComp kx vx gs scope pos) (some (.Name y py)) l env = pure true := by
  have ky : env.kindOf y = some .local := (hy)
  have hb : env.blockKind = .function := by (unfold Env.blockKind); rw [hk]; rfl
  unfold swapsWith
  simp only [hb, ky, ha, Expr.pos, hl]; rfl
end
section
variable {J : It} {n : Nat} {G : Hp → Prop} {Y : Nat → Hp → V → Hp → Prop}
/-- over any walk -/
theorem dc_it (w : Walk J n G Y) {g : TG} {tt : TT} {tk tv : TE} {vs : List Nat} {σ : L2.St} {H1 : Hp} {D : Addr} {Qd : Hp → Prop} (Pv : Nat → Hp → Prop) (h0 : Pv 0 (upd H1 D (.dK []))) (hG : ∀ i H, i ≤ n → Pv i H → G H)
    (hs : ∀ i x H H', i < n → Pv i H → Y i H x H' → g x (wipe σ vs) H' fun σ2 H2 => wipe σ2 vs = wipe σ vs ∧ tt σ2 H2 fun b H3 => if b = true then tk σ2 H3 fun y H4 => tv σ2 H4 fun z H5 => ∃ kvs k, y = kV k ∧ H5 D = some (.dK kvs) ∧ kvs.length < sizeLine ∧ Pv (i + 1) (upd H5 D (.dK (putK kvs k z))) else Pv (i + 1) H3) (hd : ∀ H, Pv n H → Qd H) :
    ∃ W : Nat → Nat → Hp → Prop, (∃ m, W 0 m (upd H1 D (.dK []))) ∧ ∀ i m H, W i m H → (J.stop i H ∧ Qd H) ∨ (J.go i H ∧ ∃ Nx : Hp → Prop, (∀ H', Nx H' → ∃ m', m' < m ∧ W (i + 1) m' H') ∧ ∀ x H', J.yld i H x H' → g x (wipe σ vs) H' fun σ2 H2 => wipe σ2 vs = wipe σ vs ∧ tt σ2 H2 fun b H3 => if b = true then tk σ2 H3 fun y H4 => tv σ2 H4 fun z H5 => ∃ kvs k, y = kV k ∧ H5 D = some (.dK kvs) ∧ kvs.length < sizeLine ∧ Nx (upd H5 D (.dK (putK kvs k z))) else Nx H3) := by
  refine ⟨fun i m H => m = n - i ∧ i ≤ n ∧ Pv i H, ⟨n, by simp, Nat.zero_le _, h0⟩, ?_⟩
  rintro i m H ⟨rfl, hi, p⟩
  by_cases lt : i < n
  · exact .inr ⟨w.goes i H lt (hG i H hi p), Pv (i + 1), fun H' p' => ⟨n - (i + 1), by omega, rfl, lt, p'⟩, fun x H' y => hs i x H H' lt p (w.yields i H x H' lt (hG i H hi p) y)⟩
  · obtain rfl : i = n := by omega
    exact .inl ⟨w.stops H (hG _ H hi p), hd H p⟩
end
end DC

/-! methods and classes of the program as they stand behind the top; what their calls and what raising come to -/
namespace MX
open PySem PySem.Spec PyProof.Rows L2 Evl HB MB HW HI HJ PI RH
/-- the method m of the class at C, as the text has it -/
structure MD (K : PySem.W.Frag) (C : Addr) (m qual : Str) (st : Stmt) (ps : List Str) : Prop where
  ex : ∃ (f : Addr) (fd : FuncData), Meth K C m f ∧ Fun K m qual st f fd ∧ Binds K fd ps []
/-- .. and keeps its promise -/
structure MOk (P : Program) (w : World) (K : PySem.W.Frag) (mg : Str → Option Value) (base : Heap) (C : Addr) (m : Str) (k : Nat) (ps : List Str) (ds : List V) (sp : Sp) : Prop where
  ex : ∃ (f : Addr) (fd : FuncData) (us : List Value), Meth K C m f ∧ Binds K fd ps us ∧ Vals ds us ∧ FnOk P w K mg base (L2.CX P w) k f fd ps sp
theorem md_mk {K : PySem.W.Frag} {C f : Addr} {m qual : Str} {st : Stmt} {ps : List Str} {oc : Value} {od an : Option Addr} {osl : Array (Option Value)} {kV doc pm cdv ct : Value} (a : PySem.W.findIn K (.ref C) m = some (some (.ref f))) (i : PySem.W.isFn K (.ref f) = true)
    (l : K.lookup f = some ⟨oc, od, .func (PySem.W.fnOf m qual (defArgs st) (defBody st) (defScope st) .none kV doc pm an cdv ct), osl⟩) (c : PySem.W.codeIn K cdv qual = true) (k : PySem.W.keepIn K (.ref f) = true)
    (h : ∀ (kV doc pm : Value) (an : Option Addr) (cdv ct : Value) (us : List Value), us.length = ps.length → bindArgs (PySem.W.fnOf m qual (defArgs st) (defBody st) (defScope st) .none kV doc pm an cdv ct) ⟨us, []⟩ = pure (ps.zip us)) : MD K C m qual st ps :=
  ⟨f, _, ⟨a, i, k⟩, fun_mk l c k, (fun_mk l c k).binds h⟩
section
variable {P : Program} {w : World} {K : PySem.W.Frag} {mg : Str → Option Value} {base : Heap} {C : Addr} {m qual : Str} {st : Stmt} {N ps : List Str} {k : Nat} {ds : List V} {sp : Sp}
theorem MD.ok (D : MD K C m qual st ps) (S : FnScope N ps (defScope st)) (len : ∀ vs H Q E, sp vs H Q E → vs.length = ps.length)
    (body : ∀ (f : Addr) (cdv : Value) (A : Around) (outer : List Env) (s : Shared) (H : Hp) (vs : List V) (Q : VK) (E : XK), Room k (A.deeper (envOfC qual (defScope st) s.heap.objs.size f cdv)) → sp vs H Q E →
      ∃ t, PSs (cxOf (L2.CX P w) P w K mg base N qual (defScope st) f cdv A outer s H E) (defBody st) t ∧ t { nx := fun _ H' => Q .non H', rt := Q } (start N vs) H) : MOk P w K mg base C m (k + 1) ps [] sp := by
  obtain ⟨f, fd, M, F, b⟩ := D.ex
  exact ⟨f, fd, [], M, b, .nil, F.okX S len (body f)⟩
/-- nothing to show where nothing may be asked -/
theorem MD.no (D : MD K C m qual st ps) (S : FnScope N ps (defScope st)) (no : ∀ vs H Q E, ¬ sp vs H Q E) : MOk P w K mg base C m (k + 1) ps [] sp :=
  D.ok S (fun vs H Q E h => (no vs H Q E h).elim) fun f cdv A outer s H vs Q E hr h => (no vs H Q E h).elim
theorem MOk.imp {sp' : Sp} (D : MOk P w K mg base C m k ps ds sp) (h : ∀ vs H Q E, sp' vs H Q E → sp vs H Q E) : MOk P w K mg base C m k ps ds sp' := by
  obtain ⟨f, fd, us, M, b, d, F⟩ := D.ex
  exact ⟨f, fd, us, M, b, d, F.imp h⟩
/-- a method for the law, which lets nothing out -/
theorem MOk.mt {sp' : Sp} (D : MOk P w K mg base C m k ps ds sp) (hk : k ≤ 20) (h : ∀ vs H Q E, sp' vs H Q E → sp vs H Q E) : Mt P w K mg base C m ds sp' := by
  obtain ⟨f, fd, us, M, b, d, F⟩ := D.ex
  exact ⟨L2.CX P w, k, f, fd, ps, us, M, b, d, hk, F.imp h, fun X e1 e2 => by (subst e1); subst e2; exact passL⟩
end
section
variable {X : Cx} {C : Addr} {sp : Sp} {ds : List V} {ps : List Str} {m : Str} {k : Nat} {pos apos : Pos} {e o : Expr} {es : List Expr} {ta : TE} {t : TA} {E : XK}
theorem pe_mo {pl : Sem Bool} (D : MOk X.prog X.w X.K X.mg X.base C m k ps ds sp) (c : Cls X.K C) (hr : Room k X.A) (hx : Passes (L2.CX X.prog X.w) X E) (he : PE X o ta) (ha : PA X (e :: es) t)
    (hst : starEach (e :: es) X.env = (false, eval e X.env) :: starEach es X.env := by rfl) (hpl : (backTo pos (starEach es X.env)).any (·.1) = false := by rfl) (ht : eval (.Call (.Attribute o m apos) (e :: es) [] pos) X.env = (do
      let ov ← eval o X.env
      standAt apos.atName
      let (f, first) ← holding [ov] (getMethod ov m pl)
      callWith pos f first (backTo pos (starEach (e :: es) X.env)) (backToKw pos (keywordEach [] X.env))) := by rfl) :
    PE X (.Call (.Attribute o m apos) (e :: es) [] pos) (tMeth C m sp ds E ta t) := by
  obtain ⟨f, fd, us, M, b, d, F⟩ := D.ex
  exact pe_meth he c M F hr b d hx ha hst hpl ht
theorem pe_mo0 {pl : Sem Bool} (D : MOk X.prog X.w X.K X.mg X.base C m k ps ds sp) (c : Cls X.K C) (hr : Room k X.A) (hx : Passes (L2.CX X.prog X.w) X E) (he : PE X o ta) (ht : eval (.Call (.Attribute o m apos) [] [] pos) X.env = (do
      let ov ← eval o X.env
      standAt apos.atName
      let (f, first) ← holding [ov] (getMethod ov m pl)
      callWith pos f first (backTo pos (starEach [] X.env)) (backToKw pos (keywordEach [] X.env))) := by rfl) : PE X (.Call (.Attribute o m apos) [] [] pos) (tMeth C m sp ds E ta tNil) := by
  obtain ⟨f, fd, us, M, b, d, F⟩ := D.ex
  exact pe_meth0 he c M F hr b d hx ht
/-- what a callee lets out is let out -/
theorem passE (hs : X.stack = X.env :: X.outer := by rfl) (hf : X.env.frame = some X.env.locals := by rfl) (hex : X.ex = [] := by rfl) {E₁ : Value → Shared → Prop}
    (hx : X.xe = fun e s' => wpAny (model X.prog X.w) X.A (leaving X.env e) (fun _ s'' => L2.CX X.prog X.w X.outer X.H_0 X.s_0 E e s'') E₁ s' := by rfl) : Passes (L2.CX X.prog X.w) X E := passes_call (takes_of hs hf hex hx) fun _ _ _ _ h => h
end
/-! ### making -/
structure CM (K : PySem.W.Frag) (C : Addr) (qual : Str) (st : Stmt) (ps : List Str) : Prop where
  ex : ∃ (f : Addr) (fd : FuncData), Mk K C f ∧ Fun K "__init__" qual st f fd ∧ Binds K fd ps []
structure COk (P : Program) (w : World) (K : PySem.W.Frag) (mg : Str → Option Value) (base : Heap) (C : Addr) (k : Nat) (ps : List Str) (sp : Sp) : Prop where
  ex : ∃ (f : Addr) (fd : FuncData), Mk K C f ∧ Binds K fd ps [] ∧ FnOk P w K mg base (L2.CX P w) k f fd ps sp
theorem cm_mk {K : PySem.W.Frag} {C f : Addr} {qual : Str} {st : Stmt} {ps : List Str} {oc : Value} {od an : Option Addr} {osl : Array (Option Value)} {kV doc pm cdv ct : Value} (a : PySem.W.findIn K (.ref C) "__init__" = some (some (.ref f))) (i : PySem.W.isFn K (.ref f) = true)
    (l : K.lookup f = some ⟨oc, od, .func (PySem.W.fnOf "__init__" qual (defArgs st) (defBody st) (defScope st) .none kV doc pm an cdv ct), osl⟩) (c : PySem.W.codeIn K cdv qual = true) (k : PySem.W.keepIn K (.ref f) = true) (mk : PySem.W.makesIn K C = true) (kc : PySem.W.keepIn K (.ref C) = true)
    (h : ∀ (kV doc pm : Value) (an : Option Addr) (cdv ct : Value) (us : List Value), us.length = ps.length → bindArgs (PySem.W.fnOf "__init__" qual (defArgs st) (defBody st) (defScope st) .none kV doc pm an cdv ct) ⟨us, []⟩ = pure (ps.zip us)) : CM K C qual st ps :=
  ⟨f, _, ⟨mk, a, i, kc⟩, fun_mk l c k, (fun_mk l c k).binds h⟩
theorem CM.ok {P : Program} {w : World} {K : PySem.W.Frag} {mg : Str → Option Value} {base : Heap} {C : Addr} {qual : Str} {st : Stmt} {N ps : List Str} {k : Nat} {sp : Sp} (D : CM K C qual st ps) (S : FnScope N ps (defScope st)) (len : ∀ vs H Q E, sp vs H Q E → vs.length = ps.length)
    (body : ∀ (f : Addr) (cdv : Value) (A : Around) (outer : List Env) (s : Shared) (H : Hp) (vs : List V) (Q : VK) (E : XK), Room k (A.deeper (envOfC qual (defScope st) s.heap.objs.size f cdv)) → sp vs H Q E →
      ∃ t, PSs (cxOf (L2.CX P w) P w K mg base N qual (defScope st) f cdv A outer s H E) (defBody st) t ∧ t { nx := fun _ H' => Q .non H', rt := Q } (start N vs) H) : COk P w K mg base C (k + 1) ps sp := by
  obtain ⟨f, fd, M, F, b⟩ := D.ex
  exact ⟨f, fd, M, b, F.okX S len (body f)⟩
section
variable {X : Cx} {C : Addr} {sp : Sp} {ps : List Str} {x : Str} {k : Nat} {p pos : Pos} {e : Expr} {es : List Expr} {t : TA} {E : XK}
theorem pe_co (D : COk X.prog X.w X.K X.mg X.base C k ps sp) (hr : Room (k + 1) X.A) (hg : Gl X x) (hm : X.mg x = some (.ref C)) (hx : Passes (L2.CX X.prog X.w) X E) (ha : PA X (e :: es) t) (hdb : (x == ("__debug__" : Str)) = false := by decide)
    (he : starEach (e :: es) X.env = (false, eval e X.env) :: starEach es X.env := by rfl) (hpl : (backTo pos (starEach es X.env)).any (·.1) = false := by rfl) : PE X (.Call (.Name x p) (e :: es) [] pos) (tMake C sp [] E t) := by
  obtain ⟨f, fd, M, b, F⟩ := D.ex
  exact pe_make M F hr hg hm b .nil hx ha hdb he hpl
theorem pe_co0 (D : COk X.prog X.w X.K X.mg X.base C k ps sp) (hr : Room (k + 1) X.A) (hg : Gl X x) (hm : X.mg x = some (.ref C)) (hx : Passes (L2.CX X.prog X.w) X E) (hdb : (x == ("__debug__" : Str)) = false := by decide) : PE X (.Call (.Name x p) [] [] pos) (tMake C sp [] E tNil) := by
  obtain ⟨f, fd, M, b, F⟩ := D.ex
  exact pe_make0 M F hr hg hm b .nil hx hdb
end
/-! ### raising -/
/-- what the top has written of an own exception class -/
structure ExC (K : PySem.W.Frag) (mg : Str → Option Value) (x : Str) (C : Addr) : Prop where
  gP : mg x = some (.ref C)
  xP : PySem.W.excIn K C [.type "ValueError", .type "Exception", .type "BaseException", .type "object"] "ValueError.__new__" = true
  kP : PySem.W.keepIn K (.ref C) = true
  bP : PySem.W.subIn K (.ref C) (.type "BaseException") = some true
  tP : PySem.W.typeIn K (.ref C) = some (.type "type")
/-- an exception of that class goes out; all that was tracked is as it was -/
def RaiseV (C : Addr) (H : Hp) (E : XK) : Prop := ∀ H', Ex H H' → E (.ref C) none H'
theorem RaiseV.go {C : Addr} {H H' : Hp} {E : XK} (r : RaiseV C H E) (e : Ex H H') : E (.ref C) none H' := r H' e
theorem RaiseV.mono {C : Addr} {H H' : Hp} {E : XK} (r : RaiseV C H E) (e : Ex H H') : RaiseV C H' E := fun H2 e2 => r H2 (e.trans e2)
section
variable {X : Cx} {x m : Str} {j : Nat} {p p2 pos pos2 : Pos} {C : Addr} {E : XK}
theorem ps_raiseE (hc : X.calm = true) (T : ExC X.K X.mg x C) (hg : Gl X x) (hdb : (x == ("__debug__" : Str)) = false := by decide) (hs : X.stack = X.env :: X.outer := by rfl) (hf : X.env.frame = some X.env.locals := by rfl) (hex : X.ex = [] := by rfl) {E₁ : Value → Shared → Prop}
    (hx : X.xe = fun e s' => wpAny (model X.prog X.w) X.A (leaving X.env e) (fun _ s'' => L2.CX X.prog X.w X.outer X.H_0 X.s_0 E e s'') E₁ s' := by rfl) : PS X (.Raise (some (.Call (.Name x p) [.Constant (.str m) j p2] [] pos)) none pos2) (fun _ σ H => E (.ref C) none H) :=
  ps_raise hc (takes_of hs hf hex hx) (pmk_own PySem.F.excBase_ValueError T.xP T.gP T.kP (raises_own T.bP T.tP) hg hdb)
end
/-! ### what they come to -/
section
variable {σ : L2.St} {H H' : Hp} {K : PySem.W.Frag} {x y z v : V} {ta tb te to td : TE} {t : TA} {tt : TT} {f m : Str} {a C dx : Addr} {fs : List (Str × V)} {vs : List V} {ds : List V} {E : XK} {D : Ends} {tu tz : TS}
theorem ev_fld (h : Ev te σ H (.ref a)) (ha : H a = some (.ins C dx fs)) (c : Cls K C) (n : NoAttr K C f) (l : fs.lookup f = some v) : Ev (tFld K te f) σ H v := fun H1 e Q q =>
  h H1 e _ fun H2 e2 => ⟨a, C, dx, fs, v, rfl, (e.trans e2) _ _ ha, c, n, l, q H2 e2⟩
/-- a promise that gives a value and changes nothing -/
def SpE (sp : Sp) (vs : List V) (H : Hp) (z : V) (E : XK) : Prop := ∀ H1, Ex H H1 → ∀ Q : VK, (∀ H2, Ex H1 H2 → Q z H2) → sp vs H1 Q E
theorem ev_mo {sp : Sp} (ho : Ev to σ H (.ref a)) (ha : H a = some (.ins C dx fs)) (n : fs.lookup m = none) (hv : EvA t σ H vs) (hs : SpE sp (.ref a :: (vs ++ ds)) H z E) : Ev (tMeth C m sp ds E to t) σ H z := fun H1 e Q q =>
  ho H1 e _ fun H2 e2 => ⟨a, dx, fs, rfl, (e.trans e2) _ _ ha, n, hv H2 (e.trans e2) _ fun H3 e3 => hs H3 ((e.trans e2).trans e3) Q fun H4 e4 => q H4 ((e2.trans e3).trans e4)⟩
theorem t_mo {sp : Sp} {Q : VK} (ho : Ev to σ H (.ref a)) (ha : H a = some (.ins C dx fs)) (n : fs.lookup m = none) (hv : EvA t σ H vs) (hs : ∀ H1, Ex H H1 → sp (.ref a :: (vs ++ ds)) H1 Q E) : tMeth C m sp ds E to t σ H Q :=
  ho H (Ex.refl H) _ fun H2 e2 => ⟨a, dx, fs, rfl, e2 _ _ ha, n, hv H2 e2 _ fun H3 e3 => hs H3 (e2.trans e3)⟩
theorem ed_mo {sp : Sp} {kvs : List (Key × V)} (ho : Ev to σ H (.ref a)) (ha : H a = some (.ins C dx fs)) (n : fs.lookup m = none) (hv : EvA t σ H vs) (hs : ∀ H1, Ex H H1 → ∀ Q : VK, RetD kvs H1 Q → sp (.ref a :: (vs ++ ds)) H1 Q E) : EvD (tMeth C m sp ds E to t) σ H kvs := fun H1 e Q q =>
  ho H1 e _ fun H2 e2 => ⟨a, dx, fs, rfl, (e.trans e2) _ _ ha, n, hv H2 (e.trans e2) _ fun H3 e3 => hs H3 ((e.trans e2).trans e3) Q fun p H4 np e4 h4 => q p H4 (fresh_back (e2.trans e3) np) ((e2.trans e3).trans e4) h4⟩
theorem el_mo {sp : Sp} {xs : List V} (ho : Ev to σ H (.ref a)) (ha : H a = some (.ins C dx fs)) (n : fs.lookup m = none) (hv : EvA t σ H vs) (hs : ∀ H1, Ex H H1 → ∀ Q : VK, RetL xs H1 Q → sp (.ref a :: (vs ++ ds)) H1 Q E) : EvL (tMeth C m sp ds E to t) σ H xs := fun H1 e Q q =>
  ho H1 e _ fun H2 e2 => ⟨a, dx, fs, rfl, (e.trans e2) _ _ ha, n, hv H2 (e.trans e2) _ fun H3 e3 => hs H3 ((e.trans e2).trans e3) Q fun p H4 np e4 h4 => q p H4 (fresh_back (e2.trans e3) np) ((e2.trans e3).trans e4) h4⟩
/-- C(..): a new instance, then its __init__ -/
theorem t_make {sp : Sp} {Q : VK} (hv : EvA t σ H vs) (h : ∀ H1 x dx, Ex H H1 → H1 x = none → H1 dx = none → dx ≠ x → sp (.ref x :: (vs ++ ds)) (upd (upd H1 dx (.own x)) x (.ins C dx [])) (fun v H2 => v = .non ∧ Q (.ref x) H2) E) : tMake C sp ds E t σ H Q :=
  hv H (Ex.refl H) _ fun H1 e1 x dx n1 n2 n3 => h H1 x dx e1 n1 n2 n3
theorem s_dputQ {ty tv : TE} (h : tv σ H fun v H1 => td σ H1 fun x H2 => ty σ H2 fun y H3 => ∃ a H4, x = .ref a ∧ DPut H3 a y v H4 ∧ D.nx σ H4) : sDPut td ty tv D σ H := h
theorem ed_if {b : Bool} {kvs : List (Key × V)} (h : EvT tt σ H b) (h1 : b = true → EvD ta σ H kvs) (h2 : b = false → EvD tb σ H kvs) : EvD (tIf tt ta tb) σ H kvs := fun H1 e Q q => h H1 e _ fun H2 e2 => by
  cases b with
  | true => exact iteT (h1 rfl H2 (e.trans e2) Q fun p H3 np e3 h3 => q p H3 (fresh_back e2 np) (e2.trans e3) h3)
  | false => exact iteF (h2 rfl H2 (e.trans e2) Q fun p H3 np e3 h3 => q p H3 (fresh_back e2 np) (e2.trans e3) h3)
/-- dict(d) -/
theorem ed_copy {kvs : List (Key × V)} (h : Ev te σ H (.ref a)) (ha : Rd H a (.dK kvs)) : EvD (tCB (fun xs H Q => ∃ (a : Addr) (kvs : List (Key × V)), xs = [.ref a] ∧ Rd H a (.dK kvs) ∧ ∀ p, H p = none → Q (.ref p) (upd H p (.dK kvs))) (tCons te tNil)) σ H kvs := fun H1 e Q q =>
  h H1 e _ fun H2 e2 => ⟨a, kvs, rfl, ex_rd (e.trans e2) ha, fun p np => q p _ (fresh_back e2 np) (e2.trans (Ex.new np)) upd_same⟩
theorem EvD.mono {kvs : List (Key × V)} (e : Ex H H') (h : EvD te σ H kvs) : EvD te σ H' kvs := fun H1 a Q q => h H1 (e.trans a) Q q
end
end MX

/-! a play as the program lays it: an instance with a dict from numbers to instances of cues -/
namespace RP
open PySem PySem.Spec PyProof.Rows L2 Evl HB MB HW HI HM PI MC HJ MX
structure PRow where
  c : Cu
  ca : Addr
  dx : Addr
  wa : Addr
def PRow.flds (r : PRow) : List (Str × V) := [("up", .int r.c.up), ("down", .int r.c.down), ("fresh", .bl r.c.fr), ("words", .ref r.wa)]
def pkv (R : List PRow) : List (Key × V) := R.map fun r => (.inl r.c.n, .ref r.ca)
abbrev pk (R : List PRow) : Bk := R.map (·.c)
structure Raw (C Cc : Addr) (H : Hp) (p d : Addr) (R : List PRow) : Prop where
  ob : ∃ dx, H p = some (.ins C dx [("_cues", .ref d)])
  dc : H d = some (.dK (pkv R))
  row : ∀ r ∈ R, H r.ca = some (.ins Cc r.dx r.flds) ∧ H r.wa = some (.dK (wkv r.c.ws))
  nd : ((pk R).map (·.n)).Nodup
  ndw : (R.map (·.wa)).Nodup
  dw : ∀ r ∈ R, r.wa ≠ d
  wn : ∀ r ∈ R, (r.c.ws.map (·.1)).Nodup
/-- its places -/
def PF (p d : Addr) (R : List PRow) (b : Addr) : Prop := b = p ∨ b = d ∨ ∃ r ∈ R, b = r.ca ∨ b = r.wa
section
variable {C Cc : Addr} {H H' : Hp} {p d : Addr} {R : List PRow}
theorem Raw.known (h : Raw C Cc H p d R) {b : Addr} (k : PF p d R b) : ∃ u, H b = some u := by
  rcases k with rfl | rfl | ⟨r, hr, rfl | rfl⟩
  · obtain ⟨dx, e⟩ := h.ob; exact ⟨_, e⟩
  · exact ⟨_, h.dc⟩
  · exact ⟨_, (h.row r hr).1⟩
  · exact ⟨_, (h.row r hr).2⟩
theorem Raw.frame (h : Raw C Cc H p d R) (k : ∀ b u, PF p d R b → H b = some u → H' b = some u) : Raw C Cc H' p d R := by
  obtain ⟨dx, e⟩ := h.ob
  exact ⟨⟨dx, k _ _ (.inl rfl) e⟩, k _ _ (.inr (.inl rfl)) h.dc, fun r hr => ⟨k _ _ (.inr (.inr ⟨r, hr, .inl rfl⟩)) (h.row r hr).1, k _ _ (.inr (.inr ⟨r, hr, .inr rfl⟩)) (h.row r hr).2⟩, h.nd, h.ndw, h.dw, h.wn⟩
theorem Raw.ex (h : Raw C Cc H p d R) (e : Ex H H') : Raw C Cc H' p d R := h.frame fun b u _ hb => e b u hb
theorem val_pkv (n : Int) : ∀ R : List PRow, valV (pkv R) (.inl n) = (R.find? fun r => decide (r.c.n = n)).map fun r => V.ref r.ca
  | [] => rfl
  | r :: R => by
    have ih := val_pkv n R
    rw [List.find?_cons]
    by_cases e : r.c.n = n
    · rw [decide_eq_true e]
      exact valV_pos (p := ((.inl r.c.n : Key), V.ref r.ca)) (r := pkv R) (congrArg Sum.inl e)
    · rw [decide_eq_false e]
      exact (valV_neg (p := ((.inl r.c.n : Key), V.ref r.ca)) (r := pkv R) fun z => e (Sum.inl.inj z)).trans ih
theorem pk_n (R : List PRow) : (pk R).map (·.n) = R.map fun r => r.c.n := by (unfold pk); rw [List.map_map]; rfl
theorem keys_pkv (R : List PRow) : (pkv R).map (·.1) = ((pk R).map (·.n)).map Sum.inl := by
  unfold pkv pk
  rw [List.map_map, List.map_map, List.map_map]; rfl
theorem val_row (nd : ((pk R).map (·.n)).Nodup) {r : PRow} (hr : r ∈ R) : valV (pkv R) (.inl r.c.n) = some (.ref r.ca) := by
  rw [pk_n] at nd
  rw [val_pkv]
  cases q : R.find? fun x => decide (x.c.n = r.c.n) with
  | none => exact absurd (decide_eq_true rfl) (List.find?_eq_none.mp q r hr)
  | some x =>
    have e := of_decide_eq_true (List.find?_some (p := fun x : PRow => decide (x.c.n = r.c.n)) q)
    rw [nodup_at nd (List.mem_of_find?_eq_some q) hr e]; rfl
theorem val_no {n : Int} (h : ∀ r ∈ R, r.c.n ≠ n) : valV (pkv R) (.inl n) = none := by
  rw [val_pkv, Option.map_eq_none_iff, List.find?_eq_none]
  exact fun r hr e => h r hr (of_decide_eq_true e)
/-! ### changes -/
def modP (R : List PRow) (n : Int) (g : List (Str × Int) → List (Str × Int)) : List PRow := R.map fun r => if r.c.n = n then { r with c := { r.c with ws := g r.c.ws } } else r
theorem pk_mod (R : List PRow) (n : Int) (g : List (Str × Int) → List (Str × Int)) : pk (modP R n g) = modB (pk R) n g := by
  unfold pk modP modB
  rw [List.map_map, List.map_map]
  refine List.map_congr_left fun r _ => ?_
  show (if r.c.n = n then _ else r).c = if r.c.n = n then _ else r.c
  split <;> rfl
theorem modP_map {α : Type} (f : PRow → α) (g : List (Str × Int) → List (Str × Int)) (hf : ∀ r : PRow, f { r with c := { r.c with ws := g r.c.ws } } = f r) (R : List PRow) (n : Int) : (modP R n g).map f = R.map f := by
  unfold modP
  rw [List.map_map]
  refine List.map_congr_left fun r _ => ?_
  show f (if r.c.n = n then _ else r) = f r
  split
  · exact hf r
  · rfl
theorem Raw.modw {r : PRow} (h : Raw C Cc H p d R) (hr : r ∈ R) (g : List (Str × Int) → List (Str × Int)) (hg : ((g r.c.ws).map (·.1)).Nodup) : Raw C Cc (upd H r.wa (.dK (wkv (g r.c.ws)))) p d (modP R r.c.n g) := by
  have nd2 := h.nd
  rw [pk_n] at nd2
  have same : ∀ x ∈ R, x.c.n = r.c.n → x = r := fun x hx e => nodup_at nd2 hx hr e
  have sameW : ∀ x ∈ R, x.wa = r.wa → x = r := fun x hx e => nodup_at h.ndw hx hr e
  have hw := (h.row r hr).2
  obtain ⟨dx, ob⟩ := h.ob
  have ep : pkv (modP R r.c.n g) = pkv R := modP_map (fun r => ((.inl r.c.n : Key), V.ref r.ca)) g (fun _ => rfl) R _
  refine ⟨⟨dx, by rw [upd_ne (ne_of ob hw fun z => by cases z)]; exact ob⟩, by rw [upd_ne (Ne.symm (h.dw r hr)), ep]; exact h.dc, fun x hx => ?_, ?_, ?_, fun x hx => ?_, fun x hx => ?_⟩
  · obtain ⟨y, hy, rfl⟩ := List.mem_map.mp hx
    obtain ⟨h1, h2⟩ := h.row y hy
    have nl : y.ca ≠ r.wa := ne_of h1 hw fun z => by cases z
    by_cases e : y.c.n = r.c.n
    · obtain rfl := same y hy e
      rw [if_pos rfl]
      exact ⟨by show upd H y.wa _ y.ca = _; rw [upd_ne nl]; exact h1, upd_same⟩
    · rw [if_neg e]
      exact ⟨by rw [upd_ne nl]; exact h1, by rw [upd_ne fun z => e (by rw [sameW y hy z])]; exact h2⟩
  · rw [pk_n, modP_map (fun r => r.c.n) g (fun _ => rfl)]; exact nd2
  · rw [modP_map (fun r => r.wa) g (fun _ => rfl)]; exact h.ndw
  · obtain ⟨y, hy, rfl⟩ := List.mem_map.mp hx
    have := h.dw y hy
    by_cases e : y.c.n = r.c.n
    · rw [if_pos e]; exact this
    · rw [if_neg e]; exact this
  · obtain ⟨y, hy, rfl⟩ := List.mem_map.mp hx
    have := h.wn y hy
    by_cases e : y.c.n = r.c.n
    · obtain rfl := same y hy e
      rw [if_pos rfl]; exact hg
    · rw [if_neg e]; exact this
theorem PF_mod {n : Int} {g : List (Str × Int) → List (Str × Int)} {b : Addr} (h : PF p d (modP R n g) b) : PF p d R b := by
  rcases h with h | h | ⟨r, hr, h⟩
  · exact .inl h
  · exact .inr (.inl h)
  · obtain ⟨y, hy, rfl⟩ := List.mem_map.mp hr
    refine .inr (.inr ⟨y, hy, ?_⟩)
    by_cases e : y.c.n = n
    · rw [if_pos e] at h; exact h
    · rw [if_neg e] at h; exact h
theorem mv_mod {r : PRow} (hr : r ∈ R) (e : Ex H H') (g : List (Str × Int) → List (Str × Int)) (o : HO) : Mv (PF p d R) H (PF p d (modP R r.c.n g)) (upd H' r.wa o) :=
  ⟨fun b u h n => by
    rw [upd_ne fun z => n (.inr (.inr ⟨r, hr, .inr z⟩))]
    exact e _ _ h, fun b h => .inl (PF_mod h)⟩
theorem drop_pkv (n : Int) (R : List PRow) : dropK (pkv R) (.inl n) = pkv (R.filter fun r => decide (r.c.n ≠ n)) := by
  unfold dropK pkv
  rw [List.filter_map]
  congr 1
  refine List.filter_congr fun x _ => ?_
  show decide ((Sum.inl x.c.n : Key) ≠ Sum.inl n) = decide (x.c.n ≠ n)
  exact decide_eq_decide.mpr ⟨fun h z => h (congrArg _ z), fun h z => h (Sum.inl.inj z)⟩
theorem pk_less (R : List PRow) (n : Int) : pk (R.filter fun r => decide (r.c.n ≠ n)) = cutB (pk R) n := by
  unfold pk cutB
  rw [List.filter_map]; rfl
theorem Raw.less (h : Raw C Cc H p d R) (f : PRow → Bool) : Raw C Cc (upd H d (.dK (pkv (R.filter f)))) p d (R.filter f) := by
  have sub : (R.filter f).Sublist R := List.filter_sublist
  obtain ⟨dx, ob⟩ := h.ob
  refine ⟨⟨dx, by rw [upd_ne (ne_of ob h.dc fun z => by cases z)]; exact ob⟩, upd_same, fun x hx => ?_, h.nd.sublist ((sub.map _).map _), h.ndw.sublist (sub.map _), fun x hx => h.dw x (sub.mem hx), fun x hx => h.wn x (sub.mem hx)⟩
  obtain ⟨q1, q2⟩ := h.row x (sub.mem hx)
  exact ⟨by rw [upd_ne (ne_of q1 h.dc fun z => by cases z)]; exact q1, by rw [upd_ne (h.dw x (sub.mem hx))]; exact q2⟩
theorem PF_less {f : PRow → Bool} {b : Addr} (h : PF p d (R.filter f) b) : PF p d R b := by
  rcases h with h | h | ⟨x, hx, h⟩
  · exact .inl h
  · exact .inr (.inl h)
  · exact .inr (.inr ⟨x, List.filter_sublist.mem hx, h⟩)
theorem mv_less (e : Ex H H') (f : PRow → Bool) (o : HO) : Mv (PF p d R) H (PF p d (R.filter f)) (upd H' d o) :=
  ⟨fun b u h n => by
    rw [upd_ne fun z => n (.inr (.inl z))]
    exact e _ _ h, fun b h => .inl (PF_less h)⟩
theorem put_pkv {r : PRow} (h : ∀ x ∈ R, x.c.n ≠ r.c.n) : putK (pkv R) (.inl r.c.n) (.ref r.ca) = pkv (R ++ [r]) := by
  rw [putK_new _ (val_no h)]
  unfold pkv
  rw [List.map_append]; rfl
/-- a cue more, its places new -/
theorem Raw.put {r : PRow} (h : Raw C Cc H p d R) (e : Ex H H') (hn : ∀ x ∈ R, x.c.n ≠ r.c.n) (n1 : H r.ca = none) (n2 : H r.wa = none) (h1 : H' r.ca = some (.ins Cc r.dx r.flds)) (h2 : H' r.wa = some (.dK (wkv r.c.ws))) (hw : (r.c.ws.map (·.1)).Nodup) :
    Raw C Cc (upd H' d (.dK (pkv (R ++ [r])))) p d (R ++ [r]) := by
  obtain ⟨dx, ob⟩ := h.ob
  have nl : r.ca ≠ d := fun z => by rw [z, h.dc] at n1; cases n1
  have nw : r.wa ≠ d := fun z => by rw [z, h.dc] at n2; cases n2
  refine ⟨⟨dx, by rw [upd_ne (ne_of ob h.dc fun z => by cases z)]; exact e _ _ ob⟩, upd_same, fun x hx => ?_, ?_, ?_, fun x hx => ?_, fun x hx => ?_⟩
  · rcases List.mem_append.mp hx with hx | hx
    · obtain ⟨q1, q2⟩ := h.row x hx
      exact ⟨by rw [upd_ne (ne_of q1 h.dc fun z => by cases z)]; exact e _ _ q1, by rw [upd_ne (h.dw x hx)]; exact e _ _ q2⟩
    · rw [List.mem_singleton.mp hx]
      exact ⟨by rw [upd_ne nl]; exact h1, by rw [upd_ne nw]; exact h2⟩
  · have nd := h.nd
    rw [pk_n] at nd ⊢
    rw [List.map_append]
    refine List.nodup_append.mpr ⟨nd, List.nodup_cons.mpr ⟨List.not_mem_nil, List.nodup_nil⟩, fun a ha b hb z => ?_⟩
    have hb : b ∈ [r.c.n] := hb
    obtain ⟨x, hx, rfl⟩ := List.mem_map.mp ha
    rw [List.mem_singleton.mp hb] at z
    exact hn x hx z
  · rw [List.map_append]
    refine List.nodup_append.mpr ⟨h.ndw, List.nodup_cons.mpr ⟨List.not_mem_nil, List.nodup_nil⟩, fun a ha b hb z => ?_⟩
    have hb : b ∈ [r.wa] := hb
    obtain ⟨x, hx, rfl⟩ := List.mem_map.mp ha
    rw [List.mem_singleton.mp hb] at z
    have q2 := (h.row x hx).2
    have z : x.wa = r.wa := z
    rw [z, n2] at q2
    cases q2
  · rcases List.mem_append.mp hx with hx | hx
    · exact h.dw x hx
    · rw [List.mem_singleton.mp hx]; exact nw
  · rcases List.mem_append.mp hx with hx | hx
    · exact h.wn x hx
    · rw [List.mem_singleton.mp hx]; exact hw
theorem mv_put {r : PRow} (e : Ex H H') (n1 : H r.ca = none) (n2 : H r.wa = none) (o : HO) : Mv (PF p d R) H (PF p d (R ++ [r])) (upd H' d o) :=
  ⟨fun b u h n => by
    rw [upd_ne fun z => n (.inr (.inl z))]
    exact e _ _ h, fun b h => by
    rcases h with h | h | ⟨x, hx, h⟩
    · exact .inl (.inl h)
    · exact .inl (.inr (.inl h))
    · rcases List.mem_append.mp hx with hx | hx
      · exact .inl (.inr (.inr ⟨x, hx, h⟩))
      · rw [List.mem_singleton.mp hx] at h
        exact .inr (h.elim (fun z => by rw [z]; exact n1) fun z => by rw [z]; exact n2)⟩
end
/-! ### the same book, words in another order -/
structure SameC (c c' : Cu) : Prop where
  n : c.n = c'.n
  up : c.up = c'.up
  down : c.down = c'.down
  fr : c.fr = c'.fr
  ws : ∀ l, wlook c.ws l = wlook c'.ws l
/-- .. cue by cue -/
inductive SameB : Bk → Bk → Prop
  | nil : SameB [] []
  | cons {c c' : Cu} {B B' : Bk} : SameC c c' → SameB B B' → SameB (c :: B) (c' :: B')
theorem SameC.refl (c : Cu) : SameC c c := ⟨rfl, rfl, rfl, rfl, fun _ => rfl⟩
theorem SameC.trans {a b c : Cu} (h : SameC a b) (k : SameC b c) : SameC a c := ⟨h.n.trans k.n, h.up.trans k.up, h.down.trans k.down, h.fr.trans k.fr, fun l => (h.ws l).trans (k.ws l)⟩
theorem SameB.refl : ∀ B : Bk, SameB B B
  | [] => .nil
  | c :: B => .cons (.refl c) (SameB.refl B)
theorem SameB.trans : ∀ {A B D : Bk}, SameB A B → SameB B D → SameB A D
  | _, _, _, .nil, .nil => .nil
  | _, _, _, .cons h a, .cons k b => .cons (h.trans k) (a.trans b)
theorem SameB.nums : ∀ {A B : Bk}, SameB A B → A.map (·.n) = B.map (·.n)
  | _, _, .nil => rfl
  | _, _, .cons h a => by rw [List.map_cons, List.map_cons, h.n, a.nums]
theorem SameB.len {A B : Bk} (h : SameB A B) : A.length = B.length := by
  have z := congrArg List.length h.nums
  rw [List.length_map, List.length_map] at z; exact z
theorem SameB.app : ∀ {A B A' B' : Bk}, SameB A B → SameB A' B' → SameB (A ++ A') (B ++ B')
  | _, _, _, _, .nil, k => k
  | _, _, _, _, .cons h a, k => .cons h (a.app k)
theorem SameB.filter {f g : Cu → Bool} (hf : ∀ c c', SameC c c' → f c = g c') : ∀ {A B : Bk}, SameB A B → SameB (A.filter f) (B.filter g)
  | _, _, .nil => .nil
  | _, _, .cons (c := c) (c' := c') h a => by
    rw [List.filter_cons, List.filter_cons, hf _ _ h]
    cases g c' with
    | true => exact .cons h (a.filter hf)
    | false => exact a.filter hf
theorem SameB.map {f g : Cu → Cu} (hf : ∀ c c', SameC c c' → SameC (f c) (g c')) : ∀ {A B : Bk}, SameB A B → SameB (A.map f) (B.map g)
  | _, _, .nil => .nil
  | _, _, .cons h a => .cons (hf _ _ h) (a.map hf)
theorem SameB.rev : ∀ {A B : Bk}, SameB A B → SameB A.reverse B.reverse
  | _, _, .nil => .nil
  | _, _, .cons h a => by
    rw [List.reverse_cons, List.reverse_cons]
    exact a.rev.app (.cons h .nil)
theorem SameB.at_ : ∀ {A B : Bk}, SameB A B → ∀ {c : Cu}, c ∈ A → ∃ c' ∈ B, SameC c c'
  | _, _, .nil, c, h => absurd h List.not_mem_nil
  | _, _, .cons h a, c, hc => by
    rcases List.mem_cons.mp hc with rfl | hc
    · exact ⟨_, List.mem_cons_self, h⟩
    · obtain ⟨c', h1, h2⟩ := a.at_ hc
      exact ⟨c', List.mem_cons_of_mem _ h1, h2⟩
theorem SameB.lvlD (l : Str) : ∀ {A B : Bk}, SameB A B → lvlD A l = lvlD B l
  | _, _, .nil => rfl
  | _, _, .cons h a => by
    unfold MB.lvlD
    rw [h.ws, h.fr, a.lvlD l]
/-- members that are alike, the same numbers, rising: alike -/
theorem same_of : ∀ {A B : Bk}, A.map (·.n) = B.map (·.n) → (∀ c ∈ A, ∃ c' ∈ B, SameC c c') → (B.map (·.n)).Nodup → SameB A B
  | [], [], _, _, _ => .nil
  | c :: A, [], e, _, _ => by cases e
  | [], c :: B, e, _, _ => by cases e
  | c :: A, b :: B, e, h, nd => by
    rw [List.map_cons, List.map_cons] at e
    have e0 : c.n = b.n := (List.cons.inj e).1
    have e1 := (List.cons.inj e).2
    rw [List.map_cons, List.nodup_cons] at nd
    have hc : SameC c b := by
      obtain ⟨c', h1, h2⟩ := h c List.mem_cons_self
      rcases List.mem_cons.mp h1 with rfl | h1
      · exact h2
      · exact absurd (List.mem_map.mpr ⟨c', h1, by rw [← h2.n, e0]⟩) nd.1
    refine .cons hc (same_of e1 (fun x hx => ?_) nd.2)
    obtain ⟨x', h1, h2⟩ := h x (List.mem_cons_of_mem _ hx)
    rcases List.mem_cons.mp h1 with rfl | h1
    · exact absurd (by rw [← e1, ← h2.n]; exact List.mem_map.mpr ⟨x, hx, rfl⟩) nd.1
    · exact ⟨x', h1, h2⟩
theorem SameB.asc_ {A B : Bk} (h : SameB A B) (nd : (B.map (·.n)).Nodup) : SameB (asc A) (asc B) := by
  have p1 : ((asc A).map (·.n)).Perm (B.map (·.n)) := by rw [← h.nums]; exact (asc_perm A).map _
  have s1 : ((asc A).map (·.n)).Pairwise (· ≤ ·) := List.pairwise_map.mpr (asc_sorted A)
  refine same_of (asc_nums p1 s1) (fun c hc => ?_) (((asc_perm B).map _).nodup_iff.mpr nd)
  obtain ⟨c', h1, h2⟩ := h.at_ ((asc_perm A).mem_iff.mp hc)
  exact ⟨c', (asc_perm B).mem_iff.mpr h1, h2⟩
theorem SameB.lvl {A B : Bk} (h : SameB A B) (nd : (B.map (·.n)).Nodup) (n : Int) (l : Str) : lvl A n l = lvl B n l := by
  have ndA : (A.map (·.n)).Nodup := by rw [h.nums]; exact nd
  unfold MB.lvl
  rw [desc_asc nd, desc_asc ndA]
  exact SameB.lvlD l ((h.asc_ nd).rev.filter fun c c' k => by rw [k.n])
theorem SameB.mod {A B : Bk} (h : SameB A B) (n : Int) (g : List (Str × Int) → List (Str × Int)) (hg : ∀ ws us, (∀ l, wlook ws l = wlook us l) → ∀ l, wlook (g ws) l = wlook (g us) l) : SameB (modB A n g) (modB B n g) := by
  refine h.map fun c c' k => ?_
  show SameC (if c.n = n then _ else c) (if c'.n = n then _ else c')
  by_cases e : c.n = n
  · rw [if_pos e, if_pos (k.n.symm.trans e)]
    exact ⟨k.n, k.up, k.down, k.fr, hg _ _ k.ws⟩
  · rw [if_neg e, if_neg (fun z => e (k.n.trans z))]
    exact k
theorem SameB.cut {A B : Bk} (h : SameB A B) (n : Int) : SameB (cutB A n) (cutB B n) := h.filter fun c c' k => by rw [k.n]
theorem wlook_drop (ws : List (Str × Int)) (l k : Str) : wlook (wdrop ws l) k = if k = l then none else wlook ws k := by
  induction ws with
  | nil => (unfold wdrop); simp [wlook]
  | cons p r ih =>
    unfold wdrop at ih ⊢
    rw [List.filter_cons]
    by_cases e : p.1 = l
    · rw [decide_eq_false (fun z => z e), if_neg Bool.false_ne_true, ih]
      by_cases e2 : k = l
      · rw [if_pos e2, if_pos e2]
      · rw [if_neg e2, if_neg e2, wlook_neg fun z => e2 (z.symm.trans e)]
    · rw [decide_eq_true e, if_pos rfl]
      by_cases e2 : p.1 = k
      · rw [wlook_pos e2, wlook_pos e2, if_neg fun z => e (e2.trans z)]
      · rw [wlook_neg e2, wlook_neg e2, ih]
end RP

/-! what expressions of the program come to: dict comprehensions, sorted dicts, min and max, walks over a new dict; levels by going through the cues -/
namespace RQ
open PySem PySem.Spec PyProof.Rows L2 Evl HB HS MB HW HI HM PI MC HJ HG MD MX RH DC RP
section
variable {σ : L2.St} {H H' : Hp} {K : PySem.W.Frag} {x y z w v : V} {ta tb tc te tl td tk tv : TE} {t : TT} {D : Ends} {tu tz : TS}
/-- {l: .. for l in new list of texts if ..} -/
theorem ed_dcN {ls : List Str} {j : Nat} {vs : List Nat} (f : Str → Bool) (g : Str → V) (nd : ls.Nodup) (h : EvL tl σ H (ls.map V.str)) (hz : ls.length ≤ 40000) (hw : ∀ x, wipe ((wipe σ vs).set j (some x)) vs = wipe σ vs)
    (ht : ∀ l H1, Ex H H1 → l ∈ ls → EvT t ((wipe σ vs).set j (some (.str l))) H1 (f l)) (hk : ∀ l H1, Ex H H1 → l ∈ ls → f l = true → Ev tk ((wipe σ vs).set j (some (.str l))) H1 (.str l)) (hv : ∀ l H1, Ex H H1 → l ∈ ls → f l = true → Ev tv ((wipe σ vs).set j (some (.str l))) H1 (g l)) :
    EvD (tDc (iList K tl) (gName j) t tk tv vs) σ H ((ls.filter f).map fun l => (.inr l, g l)) := fun H0 e Q q => h H0 e _ fun p H1 np e1 h1 => ⟨p, rfl, ⟨_, .of h1⟩, fun D nD => by
  have neD : D ≠ p := fun z => by rw [z, h1] at nD; cases nD
  refine dc_it (walk_list (xs := ls.map V.str)) (fun i H' => Ex H1 H' ∧ H' D = some (.dK (((ls.take i).filter f).map fun l => (.inr l, g l)))) ⟨Ex.new nD, upd_same⟩ (fun i H' _ q => .of (q.1 _ _ h1)) (fun i x Hb Hc lt q hy => ?_) fun H' q2 => ?_
  · obtain ⟨rfl, hx⟩ := hy
    rw [List.getElem?_map] at hx
    obtain ⟨l, hl, rfl⟩ := Option.map_eq_some_iff.mp hx
    have hm := List.mem_of_getElem? hl
    have hi : i < ls.length := (List.getElem?_eq_some_iff.mp hl).1
    have tk1 : ls.take (i + 1) = ls.take i ++ [l] := by rw [List.take_add_one, hl]; rfl
    have ex := e.trans (e1.trans q.1)
    refine ⟨hw _, ht l Hc ex hm Hc (Ex.refl _) _ fun H3 e3 => ?_⟩
    cases hf : f l with
    | false =>
      refine iteF ⟨q.1.trans e3, ?_⟩
      rw [tk1, List.filter_append, List.filter_cons, if_neg (by rw [hf]; decide), List.filter_nil, List.append_nil]
      exact e3 _ _ q.2
    | true =>
      refine iteT (hk l H3 (ex.trans e3) hm hf H3 (Ex.refl _) _ fun H4 e4 => hv l H4 ((ex.trans e3).trans e4) hm hf H4 (Ex.refl _) _ fun H5 e5 => ?_)
      have hD : H5 D = some (.dK (((ls.take i).filter f).map fun l => (.inr l, g l))) := e5 _ _ (e4 _ _ (e3 _ _ q.2))
      have hlen : (((ls.take i).filter f).map fun l => ((.inr l : Key), g l)).length ≤ i := by
        rw [List.length_map]
        exact Nat.le_trans (List.length_filter_le _ _) (by rw [List.length_take]; omega)
      refine ⟨_, .inr l, rfl, hD, sz_lt (by omega), (Ex.trans q.1 (e3.trans (e4.trans e5))).mut nD, ?_⟩
      rw [upd_same, tk1, List.filter_append, List.filter_cons, if_pos hf, List.filter_nil, List.map_append]
      have no : valV (((ls.take i).filter f).map fun l => ((.inr l : Key), g l)) (.inr l) = none := by
        unfold valV
        rw [Option.map_eq_none_iff, List.find?_eq_none]
        intro kv hkv hd
        obtain ⟨l2, h2, rfl⟩ := List.mem_map.mp hkv
        have e2 : l2 = l := Sum.inr.inj (of_decide_eq_true hd)
        subst e2
        have hm2 := (List.mem_filter.mp h2).1
        have nd2 : (ls.take (i + 1)).Nodup := nd.sublist (List.take_sublist _ _)
        rw [tk1] at nd2
        exact (List.nodup_append.mp nd2).2.2 l2 hm2 l2 List.mem_cons_self rfl
      rw [putK_new _ no]; rfl
  · have e2 : (ls.take (ls.map V.str).length) = ls := by rw [List.length_map, List.take_length]
    rw [e2] at q2
    exact q D H' (fresh_back e1 nD) (e1.trans q2.1) q2.2⟩
theorem ed_dcY {ls : List Str} {j : Nat} {vs : List Nat} (g : Str → V) (nd : ls.Nodup) (h : EvL tl σ H (ls.map V.str)) (hz : ls.length ≤ 40000) (hw : ∀ x, wipe ((wipe σ vs).set j (some x)) vs = wipe σ vs)
    (hk : ∀ l H1, Ex H H1 → l ∈ ls → Ev tk ((wipe σ vs).set j (some (.str l))) H1 (.str l)) (hv : ∀ l H1, Ex H H1 → l ∈ ls → Ev tv ((wipe σ vs).set j (some (.str l))) H1 (g l)) :
    EvD (tDc (iList K tl) (gName j) tYes tk tv vs) σ H (ls.map fun l => (.inr l, g l)) := by
  have z := ed_dcN (K := K) (t := tYes) (tk := tk) (tv := tv) (fun _ => true) g nd h hz hw (fun _ _ _ _ => et_yes) (fun l H1 e hl _ => hk l H1 e hl) fun l H1 e hl _ => hv l H1 e hl
  rw [List.filter_eq_self.mpr fun _ _ => rfl] at z
  exact z
/-- for k in new dict -/
def iKeysN (td : TE) : TI := fun σ H R => td σ H fun x H1 => ∃ d kvs, x = .ref d ∧ H1 d = some (.dK kvs) ∧ ∀ o, R (Itk d o kvs) (upd H1 d (.frz o (.dK kvs)))
theorem pi_keysN {X : Cx} {tg e : Expr} (he : PE X e td) : PI X tg e (iKeysN td) := by
  refine ⟨fun pins s σ H R I h => thn (he.run pins s σ H _ I h) fun u s1 ⟨x, H1, I1, rx, d, kvs, ex, hd, q⟩ => ?_⟩
  subst ex
  obtain rfl : u = Value.ref d := rx
  obtain ⟨od, I2⟩ := I1.lock hd trivial
  obtain ⟨hs, hgd, hx, es, ep, vs, hdt, hsz, kv, hm⟩ := I2.frzK upd_same
  refine iter_keys hs hgd hx hdt (pi_one (tk := s1.toks) I2 _ (turn_keys _ hdt) ⟨_, Heap.get?_push_size _ rfl, rfl, ?_⟩ (q od))
  rw [hsz] <;> rfl
theorem q_forKeysN {kvs : List (Key × V)} {j : Nat} (h : EvD tl σ H kvs) (Pv : Addr → Obj → Nat → L2.St → Hp → Prop) (h0 : ∀ d o H1, H d = none → Ex H H1 → H1 d = some (.frz o (.dK kvs)) → Pv d o 0 σ H1) (hl : ∀ d o i σ' H', Pv d o i σ' H' → H' d = some (.frz o (.dK kvs)))
    (hs : ∀ d o i k x σ' H', kvs[i]? = some (k, x) → Pv d o i σ' H' → tu { D with nx := Pv d o (i + 1), ct := Pv d o (i + 1), bk := tz D } (σ'.set j (some (kV k))) H') (hd : ∀ d o σ' H', Pv d o kvs.length σ' H' → tz D σ' H') : tSeq (tFor (iKeysN tl) (gName j) tu) tz D σ H := by
  unfold tSeq tFor iKeysN
  refine h H (Ex.refl H) _ fun d H1 nd e1 h1 => ⟨d, kvs, rfl, h1, fun o => ?_⟩
  refine for_it (D := { D with nx := tz D }) (walk_keys (d := d) (o := o) (kvs := kvs)) (Pv d o) (h0 d o _ nd (e1.mut nd) upd_same) (fun i σ' H' _ q => hl d o i σ' H' q) (fun i x σ' Hb Hc hi q hy => ?_) fun σ' H' q => hd d o σ' H' q
  obtain ⟨rfl, k, v, hc, rfl⟩ := hy
  exact hs d o i k v σ' _ hc q
/-- d.update(e), as a statement -/
theorem s_upd {a b : Addr} {kvs lvs : List (Key × V)} {te : TE} (hd : Ev td σ H (.ref a)) (he : Ev te σ H (.ref b)) (ha : H a = some (.dK kvs)) (hb : Rd H b (.dK lvs)) (ne : a ≠ b) (hz : kvs.length + lvs.length ≤ 100000) (q : ∀ H1, Ex H H1 → D.nx σ (upd H1 a (.dK (mergeK kvs lvs)))) :
    tDrop (tBM K "dict" rUpd td (tCons te tNil)) D σ H := hd H (Ex.refl H) _ fun H1 e1 => ⟨.inr (.inr (.inl ⟨rfl, .inl ⟨_, e1 _ _ ha⟩⟩)), he H1 e1 _ fun H2 e2 => ⟨a, b, kvs, lvs, rfl, rfl, e2 _ _ (e1 _ _ ha), ex_rd (e1.trans e2) hb, ne, sz_of hz, q H2 (e1.trans e2)⟩⟩
/-- min(new list of numbers, default=d) -/
theorem ev_minD {ns : List Int} (h : EvL tl σ H (ns.map V.int)) (hz : Ev te σ H z) (h0 : ns = [] → v = z) (h1 : ∀ m, m ∈ ns → (∀ y, y ∈ ns → m ≤ y) → v = .int m) : Ev (tCKw (rMinD K) (tCons tl tNil) (tCons te tNil)) σ H v := fun H1 e Q q =>
  h H1 e _ fun p H2 np e2 h2 => hz H2 (e.trans e2) _ fun H3 e3 => ⟨p, ns, z, rfl, rfl, .of (e3 _ _ h2), fun e0 => by rw [← h0 e0]; exact q H3 (e2.trans e3), fun m hm hy => by rw [← h1 m hm hy]; exact q H3 (e2.trans e3)⟩
theorem ev_maxD {ns : List Int} (h : EvL tl σ H (ns.map V.int)) (hz : Ev te σ H z) (h0 : ns = [] → v = z) (h1 : ∀ m, m ∈ ns → (∀ y, y ∈ ns → y ≤ m) → v = .int m) : Ev (tCKw (rMaxD K) (tCons tl tNil) (tCons te tNil)) σ H v := fun H1 e Q q =>
  h H1 e _ fun p H2 np e2 h2 => hz H2 (e.trans e2) _ fun H3 e3 => ⟨p, ns, z, rfl, rfl, .of (e3 _ _ h2), fun e0 => by rw [← h0 e0]; exact q H3 (e2.trans e3), fun m hm hy => by rw [← h1 m hm hy]; exact q H3 (e2.trans e3)⟩
/-- {**a, **b} -/
theorem ed_dd {a b : Addr} {kvs lvs : List (Key × V)} (ha : Ev ta σ H (.ref a)) (hb : Ev tb σ H (.ref b)) (h1 : Rd H a (.dK kvs)) (h2 : Rd H b (.dK lvs)) (hz : kvs.length + lvs.length ≤ 50000) : EvD (tDD ta tb) σ H (mergeK (mergeK [] kvs) lvs) := fun H1 e Q q p np => by
  have ne : ∀ {c : Addr} {kv : List (Key × V)}, Rd H c (.dK kv) → p ≠ c := fun {c kv} r z => by
    obtain ⟨u, hu⟩ := rd_known r
    have := e _ _ hu
    rw [← z, np] at this; cases this
  have l1 := length_mergeK kvs []
  rw [List.length_nil] at l1
  refine ha _ (e.trans (Ex.new np)) _ fun H2 e2 => ⟨a, [], kvs, rfl, e2 _ _ upd_same, ex_rd ((e.trans (Ex.new np)).trans e2) h1, ne h1, sz_of (by rw [List.length_nil]; omega), ?_⟩
  have e3 : Ex H1 (upd H2 p (.dK (mergeK [] kvs))) := ((Ex.new np).trans e2).mut np
  refine hb _ (e.trans e3) _ fun H3 e4 => ⟨b, _, lvs, rfl, e4 _ _ upd_same, ex_rd ((e.trans e3).trans e4) h2, ne h2, sz_of (by omega), ?_⟩
  exact q p _ np ((e3.trans e4).mut np) upd_same
/-- d.get(k, z) -/
theorem ev_getR {a : Addr} {kvs : List (Key × V)} {k : Key} (hd : Ev td σ H (.ref a)) (hk : Ev te σ H (kV k)) (hz : Ev ta σ H z) (h : H a = some (.dK kvs)) : Ev (tDGet2 td te ta) σ H ((valV kvs k).getD z) := ev_get2 hd hk hz h
end
/-! ### words as dicts -/
theorem merge_wkv (ws us : List (Str × Int)) : mergeK (wkv ws) (wkv us) = wkv (us.foldl (fun acc p => wput acc p.1 p.2) ws) := by
  induction us generalizing ws with
  | nil => rfl
  | cons p r ih =>
    show mergeK (putK (wkv ws) (.inr p.1) (.int p.2)) (wkv r) = _
    rw [put_wkv, ih]; rfl
def wmerge (ws us : List (Str × Int)) : List (Str × Int) := us.foldl (fun acc p => wput acc p.1 p.2) ws
theorem wmerge_keys : ∀ (us ws : List (Str × Int)), (ws.map (·.1)).Nodup → ((wmerge ws us).map (·.1)).Nodup
  | [], _, h => h
  | p :: r, ws, h => wmerge_keys r _ (wput_keys ws p.1 p.2 h)
theorem wmerge_look (l : Str) : ∀ (us ws : List (Str × Int)), (us.map (·.1)).Nodup → wlook (wmerge ws us) l = (wlook us l).or (wlook ws l)
  | [], ws, _ => by
    rw [wlook_nil, Option.none_or]; rfl
  | p :: r, ws, nd => by
    rw [List.map_cons, List.nodup_cons] at nd
    show wlook (wmerge (wput ws p.1 p.2) r) l = _
    rw [wmerge_look l r _ nd.2, wlook_wput]
    by_cases e : l = p.1
    · have no : wlook r l = none := by
        cases q : wlook r l with
        | none => rfl
        | some v => exact absurd (List.mem_map.mpr ⟨_, wlook_mem q, e⟩) nd.1
      rw [if_pos e, no, wlook_pos e.symm]; rfl
    · rw [if_neg e, wlook_neg fun z => e z.symm]
theorem wlook_some {ws : List (Str × Int)} {l : Str} (h : l ∈ ws.map (·.1)) : ∃ v, wlook ws l = some v := by
  obtain ⟨p, hp, e⟩ := List.mem_map.mp h
  cases q : wlook ws l with
  | some v => exact ⟨v, rfl⟩
  | none =>
    unfold wlook at q
    rw [Option.map_eq_none_iff, List.find?_eq_none] at q
    exact absurd (decide_eq_true e) (q p hp)
theorem wlook_key {ws : List (Str × Int)} {l : Str} {v : Int} (h : wlook ws l = some v) : l ∈ ws.map (·.1) := List.mem_map.mpr ⟨_, wlook_mem h, rfl⟩
theorem wmerge_mem {us ws : List (Str × Int)} {l : Str} (h : l ∈ (wmerge ws us).map (·.1)) : l ∈ ws.map (·.1) ∨ l ∈ us.map (·.1) := by
  have go : ∀ (us ws : List (Str × Int)), l ∈ (wmerge ws us).map (·.1) → l ∈ ws.map (·.1) ∨ l ∈ us.map (·.1) := fun us => by
    induction us with
    | nil => exact fun ws h => .inl h
    | cons p r ih =>
      intro ws h
      rcases ih (wput ws p.1 p.2) h with h | h
      · obtain ⟨x, hx, e⟩ := List.mem_map.mp h
        rcases PS.wput_mem hx with hx | hx
        · exact .inl (List.mem_map.mpr ⟨x, hx, e⟩)
        · exact .inr (List.mem_map.mpr ⟨p, List.mem_cons_self, by rw [← e, hx]⟩)
      · exact .inr (by rw [List.map_cons]; exact List.mem_cons_of_mem _ h)
  exact go us ws h
/-! ### levels by going through the cues, rising -/
/-- one cue more -/
def goL (acc : List (Str × Int)) (c : Cu) : List (Str × Int) := wmerge (if c.fr = true then [] else acc) c.ws
theorem goL_keys {acc : List (Str × Int)} {c : Cu} (h : (acc.map (·.1)).Nodup) : ((goL acc c).map (·.1)).Nodup := by
  refine wmerge_keys _ _ ?_
  split
  · exact List.nodup_nil
  · exact h
theorem goL_mem {acc : List (Str × Int)} {c : Cu} {ls : List Str} (h : ∀ l ∈ acc.map (·.1), l ∈ ls) (hc : ∀ x ∈ c.ws, x.1 ∈ ls) : ∀ l ∈ (goL acc c).map (·.1), l ∈ ls := fun l hl => by
  rcases wmerge_mem hl with q | q
  · by_cases f : c.fr = true
    · rw [if_pos f] at q; cases q
    · rw [if_neg f] at q; exact h l q
  · obtain ⟨x, hx, rfl⟩ := List.mem_map.mp q
    exact hc x hx
theorem goL_look {acc : List (Str × Int)} {c : Cu} {r : List Cu} (nd : (c.ws.map (·.1)).Nodup) (h : ∀ l, (wlook acc l).getD 0 = lvlD r l) (l : Str) : (wlook (goL acc c) l).getD 0 = lvlD (c :: r) l := by
  unfold goL MB.lvlD
  rw [wmerge_look l _ _ nd]
  cases q : wlook c.ws l with
  | some v => rfl
  | none =>
    show (wlook (if c.fr = true then [] else acc) l).getD 0 = if c.fr = true then 0 else lvlD r l
    by_cases f : c.fr = true
    · rw [if_pos f, if_pos f]; rfl
    · rw [if_neg f, if_neg f]; exact h l
/-- a look, by the alphabet, out of levels -/
theorem look_of {B : Bk} {n : Int} {ws : List (Str × Int)} (nd : (ws.map (·.1)).Nodup) (h : ∀ l, (wlook ws l).getD 0 = lvl B n l) : LookIs B n (((sortS (ws.map (·.1))).filter fun l => decide (0 < (wlook ws l).getD 0)).map fun l => (l, (wlook ws l).getD 0)) := by
  have pm := sortS_perm (ws.map (·.1))
  have nd2 : (sortS (ws.map (·.1))).Nodup := pm.nodup_iff.mpr nd
  refine ⟨?_, fun l v => ⟨fun hm => ?_, fun hv => ?_⟩⟩
  · rw [List.map_map]
    have e : ((fun p : Str × Int => p.1) ∘ fun l => (l, (wlook ws l).getD 0)) = id := rfl
    rw [e, List.map_id]
    exact ((sortS_sorted _).imp₂ (fun {a b} q n => le_lt q n) nd2).sublist List.filter_sublist
  · obtain ⟨k, hk, e⟩ := List.mem_map.mp hm
    cases e
    exact ⟨h l, of_decide_eq_true (List.mem_filter.mp hk).2⟩
  · obtain ⟨e, pos⟩ := hv
    rw [← h l] at e
    have hk : l ∈ ws.map (·.1) := by
      cases q : wlook ws l with
      | some u => exact wlook_key q
      | none => rw [q] at e; have : v = 0 := e; omega
    exact List.mem_map.mpr ⟨l, List.mem_filter.mpr ⟨pm.mem_iff.mpr hk, decide_eq_true (by omega)⟩, by rw [← e]⟩
end RQ

/-! holding the next cue, whatever the order of the lamps: the same book -/
namespace RM
open PySem PySem.Spec PyProof.Rows L2 MB HW HM PI MC HJ HG PS MD RP RQ
/-- A is as B, but that the words of each cue are told by φ -/
inductive Lk (φ : Cu → Str → Option Int) : Bk → Bk → Prop
  | nil : Lk φ [] []
  | cons {c c' : Cu} {A B : Bk} : c'.n = c.n → c'.up = c.up → c'.down = c.down → c'.fr = c.fr → (∀ l, wlook c'.ws l = φ c l) → Lk φ A B → Lk φ (c' :: A) (c :: B)
theorem Lk.same {φ ψ : Cu → Str → Option Int} : ∀ {A A' B : Bk}, Lk φ A B → Lk ψ A' B → (∀ c ∈ B, ∀ l, φ c l = ψ c l) → SameB A A'
  | _, _, _, .nil, .nil, _ => .nil
  | _, _, _, .cons a1 a2 a3 a4 a5 h, .cons b1 b2 b3 b4 b5 k, e => .cons ⟨a1.trans b1.symm, a2.trans b2.symm, a3.trans b3.symm, a4.trans b4.symm, fun l => by rw [a5, b5, e _ List.mem_cons_self]⟩ (h.same k fun c hc => e c (List.mem_cons_of_mem _ hc))
theorem Lk.refl : ∀ B : Bk, Lk (fun c l => wlook c.ws l) B B
  | [] => .nil
  | _ :: B => .cons rfl rfl rfl rfl (fun _ => rfl) (Lk.refl B)
theorem Lk.imp {φ ψ : Cu → Str → Option Int} : ∀ {A B : Bk}, Lk φ A B → (∀ c ∈ B, ∀ l, φ c l = ψ c l) → Lk ψ A B
  | _, _, .nil, _ => .nil
  | _, _, .cons a1 a2 a3 a4 a5 h, e => .cons a1 a2 a3 a4 (fun l => by rw [a5, e _ List.mem_cons_self]) (h.imp fun c hc => e c (List.mem_cons_of_mem _ hc))
theorem Lk.set {φ : Cu → Str → Option Int} {k : Int} {j : Str} {v : Int} : ∀ {A B : Bk}, Lk φ A B → Lk (fun c l => if c.n = k ∧ l = j then some v else φ c l) (setW A k j v) B
  | _, _, .nil => .nil
  | _, _, .cons (c := c) (c' := c') a1 a2 a3 a4 a5 h => by
    show Lk _ ((if c'.n = k then { c' with ws := wput c'.ws j v } else c') :: setW _ k j v) _
    by_cases e : c'.n = k
    · rw [if_pos e]
      refine .cons a1 a2 a3 a4 (fun l => ?_) h.set
      show wlook (wput c'.ws j v) l = _
      rw [wlook_wput]
      by_cases q : l = j
      · rw [if_pos q, if_pos ⟨a1.symm.trans e, q⟩]
      · rw [if_neg q, if_neg fun z => q z.2, a5]
    · rw [if_neg e]
      refine .cons a1 a2 a3 a4 (fun l => ?_) h.set
      rw [if_neg fun z => e (a1.trans z.1), a5]
/-- what holding at k leaves -/
def held (B : Bk) (k : Int) (f : Str → Int) (S : Str → Prop) [DecidablePred S] (c : Cu) (l : Str) : Option Int := if c.n = k ∧ S l ∧ lvl B k l ≠ f l then some (f l) else wlook c.ws l
theorem holds_lk {B : Bk} {k : Int} (nd : (B.map (·.n)).Nodup) (hk : k ∈ B.map (·.n)) (f : Str → Int) : ∀ (qs ps : List Str) (A : Bk), A.map (·.n) = B.map (·.n) → Lk (held B k f (· ∈ ps)) A B → (∀ l, lvl A k l = if l ∈ ps then f l else lvl B k l) →
    Lk (held B k f (· ∈ ps ++ qs)) (holdsB A (some k) (qs.map fun l => (l, f l))) B
  | [], ps, A, _, h, _ => h.imp fun c _ l => by rw [List.append_nil]
  | q :: qs, ps, A, hn, h, hl => by
    have ndA : (A.map (·.n)).Nodup := by rw [hn]; exact nd
    have hkA : k ∈ A.map (·.n) := by rw [hn]; exact hk
    have e : ps ++ q :: qs = (ps ++ [q]) ++ qs := by rw [List.append_assoc]; rfl
    show Lk _ (holdsB (holdB A (some k) q (f q)) (some k) (qs.map fun l => (l, f l))) B
    rw [e]
    refine holds_lk nd hk f qs (ps ++ [q]) (holdB A (some k) q (f q)) (by rw [holdB_nums, hn]) ?_ fun l => ?_
    · show Lk _ (if lvl A k q = f q then A else setW A k q (f q)) B
      by_cases eq : lvl A k q = f q
      · rw [if_pos eq]
        refine h.imp fun c _ l => ?_
        unfold held
        by_cases e1 : l ∈ ps
        · have e2 : l ∈ ps ++ [q] := List.mem_append_left _ e1
          simp only [e1, e2]
        · by_cases e3 : l = q
          · subst e3
            rw [hl, if_neg e1] at eq
            rw [if_neg fun z => e1 z.2.1, if_neg fun z => z.2.2 eq]
          · have e2 : ¬ l ∈ ps ++ [q] := fun z => (List.mem_append.mp z).elim e1 fun y => e3 (List.mem_singleton.mp y)
            simp only [e1, e2]
      · rw [if_neg eq]
        refine h.set.imp fun c _ l => ?_
        unfold held
        by_cases e3 : l = q
        · subst e3
          have np : ¬ l ∈ ps := fun z => eq (by rw [hl, if_pos z])
          rw [hl, if_neg np] at eq
          by_cases ec : c.n = k
          · rw [if_pos ⟨ec, rfl⟩, if_pos ⟨ec, List.mem_append_right _ List.mem_cons_self, eq⟩]
          · rw [if_neg fun z => ec z.1, if_neg fun z => ec z.1, if_neg fun z => ec z.1]
        · rw [if_neg fun z => e3 z.2]
          by_cases e1 : l ∈ ps
          · have e2 : l ∈ ps ++ [q] := List.mem_append_left _ e1
            simp only [e1, e2]
          · have e2 : ¬ l ∈ ps ++ [q] := fun z => (List.mem_append.mp z).elim e1 fun y => e3 (List.mem_singleton.mp y)
            simp only [e1, e2]
    · by_cases e3 : l = q
      · subst e3
        rw [lvl_hold_self ndA hkA, if_pos (List.mem_append_right _ List.mem_cons_self)]
      · rw [lvl_hold_other ndA e3, hl]
        by_cases e1 : l ∈ ps
        · rw [if_pos e1, if_pos (List.mem_append_left _ e1)]
        · rw [if_neg e1, if_neg fun z => (List.mem_append.mp z).elim e1 fun y => e3 (List.mem_singleton.mp y)]
theorem holds_lk0 {B : Bk} {k : Int} (nd : (B.map (·.n)).Nodup) (hk : k ∈ B.map (·.n)) (f : Str → Int) (qs : List Str) : Lk (held B k f (· ∈ qs)) (holdsB B (some k) (qs.map fun l => (l, f l))) B := by
  have z := holds_lk nd hk f qs [] B rfl ((Lk.refl B).imp fun c _ l => by unfold held; rw [if_neg fun z => List.not_mem_nil z.2.1]) fun l => by rw [if_neg List.not_mem_nil]
  exact z.imp fun c _ l => by rw [List.nil_append]
/-- two rows of lamps that hold the same -/
theorem holds_same {B : Bk} {k : Int} (nd : (B.map (·.n)).Nodup) (hk : k ∈ B.map (·.n)) (f : Str → Int) {qs rs : List Str} (h : ∀ l, lvl B k l ≠ f l → (l ∈ qs ↔ l ∈ rs)) : SameB (holdsB B (some k) (qs.map fun l => (l, f l))) (holdsB B (some k) (rs.map fun l => (l, f l))) := by
  refine (holds_lk0 nd hk f qs).same (holds_lk0 nd hk f rs) fun c _ l => ?_
  unfold held
  by_cases e : lvl B k l = f l
  · rw [if_neg fun z => z.2.2 e, if_neg fun z => z.2.2 e]
  · have := h l e
    by_cases q : l ∈ qs
    · have q2 := this.mp q
      simp only [q, q2]
    · have q2 : ¬ l ∈ rs := fun z => q (this.mpr z)
      simp only [q, q2]
theorem SameB.hold {A B : Bk} (h : SameB A B) (nd : (B.map (·.n)).Nodup) (o : Option Int) (l : Str) (v : Int) : SameB (holdB A o l v) (holdB B o l v) := by
  cases o with
  | none => exact h
  | some k =>
    show SameB (if lvl A k l = v then A else setW A k l v) (if lvl B k l = v then B else setW B k l v)
    rw [h.lvl nd]
    by_cases e : lvl B k l = v
    · rw [if_pos e, if_pos e]; exact h
    · rw [if_neg e, if_neg e, setW_mod, setW_mod]
      exact h.mod k _ fun ws us q j => by rw [wlook_wput, wlook_wput, q]
theorem SameB.holds (o : Option Int) : ∀ (ps : List (Str × Int)) {A B : Bk}, SameB A B → (B.map (·.n)).Nodup → SameB (holdsB A o ps) (holdsB B o ps)
  | [], _, _, h, _ => h
  | p :: r, _, _, h, nd => SameB.holds o r (SameB.hold h nd o p.1 p.2) (nd_holdB nd)
theorem SameB.behind {A B : Bk} (h : SameB A B) (nd : (B.map (·.n)).Nodup) (n : Int) : behindOf A n = behindOf B n := by
  unfold behindOf
  rw [(h.asc_ nd).nums]
/-- the least number behind -/
theorem behind_of {B : Bk} {n m : Int} (hm : m ∈ B.map (·.n)) (h1 : n < m) (h2 : ∀ k ∈ B.map (·.n), n < k → m ≤ k) : behindOf B n = some m := by
  cases q : behindOf B n with
  | none => exact absurd (behind_none q m hm) (by omega)
  | some k =>
    have a := behind_mem q
    have b := behind_least q m hm h1
    have c := h2 k a.1 a.2
    rw [show k = m by omega]
theorem behind_no {B : Bk} {n : Int} (h : ∀ k ∈ B.map (·.n), ¬ n < k) : behindOf B n = none := by
  cases q : behindOf B n with
  | none => rfl
  | some k => exact absurd (behind_mem q).2 (h k (behind_mem q).1)
theorem behind_cong {A B : Bk} {n : Int} (h : ∀ k, n < k → (k ∈ A.map (·.n) ↔ k ∈ B.map (·.n))) : behindOf A n = behindOf B n := by
  cases q : behindOf A n with
  | none => exact (behind_no fun k hk z => by have := behind_none q k ((h k z).mpr hk); omega).symm
  | some m =>
    have a := behind_mem q
    exact (behind_of ((h m a.2).mp a.1) a.2 fun k hk z => behind_least q k ((h k z).mpr hk) z).symm
/-- only, by whatever lamps are held -/
theorem only_same {B : Bk} {n : Int} {l : Str} {v : Int} {k : Int} {qs : List Str} (nd : (B.map (·.n)).Nodup) (hb : behindOf B n = some k) (hq : ∀ j, lvl B k j ≠ lvl (setW B n l v) k j → j ∈ qs) :
    SameB (holdsB (setW B n l v) (some k) (qs.map fun j => (j, lvl B k j))) (onlyB B n l v) := by
  have nd2 : ((setW B n l v).map (·.n)).Nodup := nd_setW nd
  have hk : k ∈ (setW B n l v).map (·.n) := by rw [setW_nums]; exact (behind_mem hb).1
  have z := holds_same nd2 hk (fun j => lvl B k j) (qs := qs) (rs := [l]) fun j hj => ⟨fun _ => ?_, fun _ => hq j fun e => hj e.symm⟩
  · unfold onlyB dueB
    rw [hb]
    exact z
  · by_cases e : j = l
    · rw [e]; exact List.mem_cons_self
    · exact absurd (lvl_setW_other nd e) hj
/-- lift, by whatever lamps are held -/
theorem lift_same {B : Bk} {n : Int} {k : Int} {ls qs : List Str} (nd : (B.map (·.n)).Nodup) (hn : n ∈ B.map (·.n)) (hb : behindOf B n = some k) (cov : ∀ c ∈ B, ∀ x ∈ c.ws, x.1 ∈ ls) (hq : ∀ j, lvl B k j ≠ lvl (cutB B n) k j → j ∈ qs) :
    SameB (holdsB (cutB B n) (some k) (qs.map fun j => (j, lvl B k j))) (liftB B n ls) := by
  have nd2 : ((cutB B n).map (·.n)).Nodup := nd_cut nd
  have a := behind_mem hb
  have hk : k ∈ (cutB B n).map (·.n) := cutB_nums a.1 (by omega)
  have z := holds_same nd2 hk (fun j => lvl B k j) (qs := qs) (rs := ls) fun j hj => ⟨fun _ => ?_, fun _ => hq j fun e => hj e.symm⟩
  · unfold liftB dueB
    rw [hb]
    exact z
  · by_cases e : j ∈ ls
    · exact e
    · exact absurd ((lvl_zero (fun c hc => cov c (List.mem_filter.mp hc).1) e).trans (lvl_zero cov e).symm) hj
end RM

/-! names: numbers within bounds, lamps; a method with defaults; promises of a play's methods -/
namespace RL
open PySem PySem.Spec PyProof.Rows L2 Evl HB GX MB HW HM PI MX RP
def numIn (x : V) (lo hi : Int) : Bool := match x with
  | .int i => decide (lo ≤ i) && decide (i ≤ hi)
  | _ => false
def small (c : Nat) : Bool := decide (97 ≤ c) && decide (c ≤ 122)
def lampIs (x : V) : Bool := match x with
  | .str z => decide (1 ≤ z.length) && decide (z.length ≤ 8) && z.cps.toList.all small
  | _ => false
theorem lampIs_str (z : Str) : lampIs (.str z) = (decide (1 ≤ z.length) && decide (z.length ≤ 8) && z.cps.toList.all small) := rfl
theorem numIn_int (i lo hi : Int) : numIn (.int i) lo hi = (decide (lo ≤ i) && decide (i ≤ hi)) := rfl
theorem numIn_yes {x : V} {lo hi : Int} (h : numIn x lo hi = true) : ∃ i, x = .int i ∧ lo ≤ i ∧ i ≤ hi := by
  cases x with
  | int i =>
    obtain ⟨a, b⟩ := Bool.and_eq_true_iff.mp (numIn_int i lo hi ▸ h)
    exact ⟨i, rfl, of_decide_eq_true a, of_decide_eq_true b⟩
  | _ => cases h
theorem numIn_of {i lo hi : Int} (a : lo ≤ i) (b : i ≤ hi) : numIn (.int i) lo hi = true := by rw [numIn_int, decide_eq_true a, decide_eq_true b]; rfl
theorem lamp_yes {x : V} (h : lampIs x = true) : ∃ z, x = .str z ∧ LampOk z := by
  cases x with
  | str z =>
    rw [lampIs_str, Bool.and_eq_true, Bool.and_eq_true, List.all_eq_true] at h
    refine ⟨z, rfl, of_decide_eq_true h.1.1, of_decide_eq_true h.1.2, fun c hc => ?_⟩
    obtain ⟨a, b⟩ := Bool.and_eq_true_iff.mp (h.2 c hc)
    exact ⟨of_decide_eq_true a, of_decide_eq_true b⟩
  | _ => cases h
theorem lamp_of {z : Str} (h : LampOk z) : lampIs (.str z) = true := by
  rw [lampIs_str, decide_eq_true h.pos, decide_eq_true h.len]
  refine List.all_eq_true.mpr fun c hc => ?_
  obtain ⟨a, b⟩ := h.low c hc
  unfold small
  rw [decide_eq_true a, decide_eq_true b]; rfl
theorem a_le (c : Nat) : (!decide ((⟨#[c]⟩ : Str).cps.toList < ("a" : Str).cps.toList)) = decide (97 ≤ c) := by
  have e : ((⟨#[c]⟩ : Str).cps.toList < ("a" : Str).cps.toList) ↔ c < 97 := by
    show ([c] < [97]) ↔ _
    rw [List.cons_lt_cons_iff]
    exact ⟨fun h => h.elim id fun z => absurd z.2 (List.not_lt_nil _), .inl⟩
  by_cases h : c < 97
  · rw [decide_eq_true (e.mpr h), decide_eq_false (by omega)]; rfl
  · rw [decide_eq_false (fun z => h (e.mp z)), decide_eq_true (by omega)]; rfl
theorem le_z (c : Nat) : (!decide (("z" : Str).cps.toList < (⟨#[c]⟩ : Str).cps.toList)) = decide (c ≤ 122) := by
  have e : (("z" : Str).cps.toList < (⟨#[c]⟩ : Str).cps.toList) ↔ 122 < c := by
    show ([122] < [c]) ↔ _
    rw [List.cons_lt_cons_iff]
    exact ⟨fun h => h.elim id fun z => absurd z.2 (List.not_lt_nil _), .inl⟩
  by_cases h : 122 < c
  · rw [decide_eq_true (e.mpr h), decide_eq_false (by omega)]; rfl
  · rw [decide_eq_false (fun z => h (e.mp z)), decide_eq_true (by omega)]; rfl
def RNum (K : PySem.W.Frag) (H : Hp) (vs : List V) (z : V) : Prop := ∃ (x : V) (lo hi : Int) (ty : String), vs = [x, .int lo, .int hi] ∧ TyB K H x ty ∧ z = .bl (numIn x lo hi)
def RIn (K : PySem.W.Frag) (lo hi : Int) (H : Hp) (vs : List V) (z : V) : Prop := ∃ (x : V) (ty : String), vs = [x] ∧ TyB K H x ty ∧ z = .bl (numIn x lo hi)
def RLamp (K : PySem.W.Frag) (Pt : Addr) (H : Hp) (vs : List V) (z : V) : Prop := ∃ (x : V) (ty : String), vs = [x] ∧ TyB K H x ty ∧ (∀ t : Str, x = .str t → t.length ≤ sizeLine) ∧ TabX H Pt ∧ z = .bl (lampIs x)
/-! ### a method with defaults -/
structure MDD (K : PySem.W.Frag) (C : Addr) (m qual : Str) (st : Stmt) (dvs : List V) : Prop where
  ex : ∃ (f : Addr) (fd : FuncData), Meth K C m f ∧ FunD K m qual (defArgs st) (defBody st) (defScope st) dvs [] f fd
structure MDK (P : Program) (w : World) (K : PySem.W.Frag) (mg : Str → Option Value) (base : Heap) (C : Addr) (m qual : Str) (st : Stmt) (dvs : List V) (k : Nat) (ps : List Str) (sp : Sp) : Prop where
  ex : ∃ (f : Addr) (fd : FuncData), Meth K C m f ∧ FunD K m qual (defArgs st) (defBody st) (defScope st) dvs [] f fd ∧ FnOk P w K mg base (L2.CX P w) k f fd ps sp
theorem mdd_mk {K : PySem.W.Frag} {C f T : Addr} {m qual : Str} {st : Stmt} {dvs : List V} {oc : Value} {od an : Option Addr} {osl : Array (Option Value)} {kV doc pm cdv ct : Value} {o : Obj} {its : List Value} {n : Nat} (a : PySem.W.findIn K (.ref C) m = some (some (.ref f))) (i : PySem.W.isFn K (.ref f) = true)
    (l : K.lookup f = some ⟨oc, od, .func (PySem.W.fnOf m qual (defArgs st) (defBody st) (defScope st) (.ref T) kV doc pm an cdv ct), osl⟩) (c : PySem.W.codeIn K cdv qual = true) (k : PySem.W.keepIn K (.ref f) = true) (hT : K.lookup T = some o) (hd : o.data = .seq its.toArray n) (hv : Vals dvs its) (hne : dvs ≠ []) : MDD K C m qual st dvs :=
  ⟨f, _, ⟨a, i, k⟩, ⟨oc, od, .ref T, kV, doc, pm, an, cdv, ct, osl, rfl, l, c, .inr ⟨hne, T, o, its, n, rfl, hT, hd, hv⟩, .inl rfl⟩, k⟩
section
variable {P : Program} {w : World} {K : PySem.W.Frag} {mg : Str → Option Value} {base : Heap} {C : Addr} {m qual : Str} {st : Stmt} {N ps : List Str} {k : Nat} {dvs : List V} {sp : Sp}
theorem MDD.ok (D : MDD K C m qual st dvs) (S : FnScope N ps (defScope st)) (len : ∀ vs H Q E, sp vs H Q E → vs.length = ps.length)
    (body : ∀ (f : Addr) (cdv : Value) (A : Around) (outer : List Env) (s : Shared) (H : Hp) (vs : List V) (Q : VK) (E : XK), Room k (A.deeper (envOfC qual (defScope st) s.heap.objs.size f cdv)) → sp vs H Q E →
      ∃ t, PSs (cxOf (L2.CX P w) P w K mg base N qual (defScope st) f cdv A outer s H E) (defBody st) t ∧ t { nx := fun _ H' => Q .non H', rt := Q } (start N vs) H) : MDK P w K mg base C m qual st dvs (k + 1) ps sp := by
  obtain ⟨f, fd, M, F⟩ := D.ex
  exact ⟨f, fd, M, F, F.ok S len (body f)⟩
theorem MDK.at_ (D : MDK P w K mg base C m qual st dvs k ps sp) (n j : Nat) (hd : dvs ≠ []) (hn : n + (dvs.length - j) = ps.length)
    (h : ∀ (T : Addr) (kV doc pm : Value) (an : Option Addr) (cdv ct : Value) (us its : List Value), us.length = n → its.length = dvs.length →
      ∃ k, bindArgs (PySem.W.fnOf m qual (defArgs st) (defBody st) (defScope st) (.ref T) kV doc pm an cdv ct) ⟨us, []⟩ = seqItems? (.ref T) >>= k ∧ k (some its.toArray) = pure (ps.zip (us ++ its.drop j))) : MOk P w K mg base C m k ps (dvs.drop j) sp := by
  obtain ⟨f, fd, M, F, G⟩ := D.ex
  obtain ⟨ds, hv, hb⟩ := F.binds1 n j hd hn h
  exact ⟨f, fd, ds, M, hb, hv, G⟩
/-- all are written: no default is looked up -/
theorem MDK.all (D : MDK P w K mg base C m qual st dvs k ps sp) (h : ∀ (T : Addr) (kV doc pm : Value) (an : Option Addr) (cdv ct : Value) (us : List Value), us.length = ps.length → bindArgs (PySem.W.fnOf m qual (defArgs st) (defBody st) (defScope st) (.ref T) kV doc pm an cdv ct) ⟨us, []⟩ = pure (ps.zip us)) (hd : dvs ≠ []) : MOk P w K mg base C m k ps [] sp := by
  obtain ⟨f, fd, M, F, G⟩ := D.ex
  refine ⟨f, fd, [], M, ?_, .nil, G⟩
  obtain ⟨oc, od, dV, kV, doc, pm, an, cdv, ct, osl, rfl, lk, hcd, hD, hK⟩ := F.ex
  rcases hD with ⟨e, _⟩ | ⟨_, T, o, its, n, rfl, _⟩
  · exact absurd e hd
  · exact .all fun us hl => h T kV doc pm an cdv ct us hl
end
/-! ### promises of a play's methods, over what lies in the heap -/
section
variable (K : PySem.W.Frag) (Pt C Cc eCue eTaken eMany eLamp eLevel eTime : Addr)
def spKept : Sp := fun vs H Q _ => ∃ (a b : Addr) (dx : Addr) (r : PRow) (kvs : List (Key × V)), vs = [.ref a, .ref b] ∧ H a = some (.ins Cc dx r.flds) ∧ H b = some (.dK kvs) ∧ RetD (if r.c.fr = true then [] else kvs) H Q
def spNums : Sp := fun vs H Q _ => ∃ p d R, vs = [.ref p] ∧ Raw C Cc H p d R ∧ RetL ((asc (pk R)).map fun c => V.int c.n) H Q
/-- x is the number of the row r -/
def Hit (R : List PRow) (x : V) (r : PRow) : Prop := r ∈ R ∧ x = .int r.c.n
def Miss (R : List PRow) (x : V) : Prop := ∀ r ∈ R, x ≠ .int r.c.n
def Bound (R : List PRow) (ls : List Str) : Prop := (∀ r ∈ R, ∀ y ∈ r.c.ws, y.1 ∈ ls) ∧ ls.length < 64 ∧ R.length ≤ 100 ∧ ∀ r ∈ R, 1 ≤ r.c.n ∧ r.c.n ≤ 999999
def spCueOf : Sp := fun vs H Q E => ∃ p d R x ty, vs = [.ref p, x] ∧ Raw C Cc H p d R ∧ (∀ r ∈ R, 1 ≤ r.c.n ∧ r.c.n ≤ 999999) ∧ TyB K H x ty ∧ ((∃ r, Hit R x r ∧ RetV (.ref r.ca) H Q) ∨ (Miss R x ∧ RaiseV eCue H E))
def spLevels : Sp := fun vs H Q E => ∃ p d R ls x ty, vs = [.ref p, x] ∧ Raw C Cc H p d R ∧ Bound R ls ∧ TyB K H x ty ∧
  ((∃ r, Hit R x r ∧ ∀ ws, (ws.map (·.1)).Nodup → (∀ l, (wlook ws l).getD 0 = lvl (pk R) r.c.n l) → (∀ l ∈ ws.map (·.1), l ∈ ls) → RetD (wkv ws) H Q) ∨ (Miss R x ∧ RaiseV eCue H E))
def spLookR : Sp := fun vs H Q E => ∃ p d R ls x ty, vs = [.ref p, x] ∧ Raw C Cc H p d R ∧ Bound R ls ∧ TyB K H x ty ∧ ((∃ r, Hit R x r ∧ ∀ ws, LookIs (pk R) r.c.n ws → RetD (wkv ws) H Q) ∨ (Miss R x ∧ RaiseV eCue H E))
def TxtOk (x : V) : Prop := ∀ t : Str, x = .str t → t.length ≤ sizeLine
def spLevelR : Sp := fun vs H Q E => ∃ p d R ls x ty y tz, vs = [.ref p, x, y] ∧ Raw C Cc H p d R ∧ Bound R ls ∧ TyB K H x ty ∧ TyB K H y tz ∧ TxtOk y ∧ TabX H Pt ∧
  ((∃ r l, Hit R x r ∧ y = .str l ∧ LampOk l ∧ RetV (.int (lvl (pk R) r.c.n l)) H Q) ∨ (Miss R x ∧ RaiseV eCue H E) ∨ ((∃ r, Hit R x r) ∧ lampIs y = false ∧ RaiseV eLamp H E))
def spTellR : Sp := fun vs H Q E => ∃ p d R ls x ty y tz u tw, vs = [.ref p, x, y, u] ∧ Raw C Cc H p d R ∧ Bound R ls ∧ TyB K H x ty ∧ TyB K H y tz ∧ TxtOk y ∧ TyB K H u tw ∧ TabX H Pt ∧
  ((∃ r l v, Hit R x r ∧ y = .str l ∧ LampOk l ∧ u = .int v ∧ 0 ≤ v ∧ v ≤ 100 ∧ ∀ H1, Ex H H1 → Q .non (upd H1 r.wa (.dK (wkv (wput r.c.ws l v))))) ∨ (Miss R x ∧ RaiseV eCue H E) ∨ ((∃ r, Hit R x r) ∧ lampIs y = false ∧ RaiseV eLamp H E) ∨ ((∃ r, Hit R x r) ∧ lampIs y = true ∧ numIn u 0 100 = false ∧ RaiseV eLevel H E))
def spUntellR : Sp := fun vs H Q E => ∃ p d R ls x ty y tz, vs = [.ref p, x, y] ∧ Raw C Cc H p d R ∧ Bound R ls ∧ TyB K H x ty ∧ TyB K H y tz ∧ TxtOk y ∧ TabX H Pt ∧
  ((∃ r l, Hit R x r ∧ y = .str l ∧ LampOk l ∧ (wlook r.c.ws l).isSome = true ∧ ∀ H1, Ex H H1 → Q .non (upd H1 r.wa (.dK (wkv (wdrop r.c.ws l))))) ∨ (Miss R x ∧ RaiseV eCue H E) ∨ ((∃ r, Hit R x r ∧ ∀ l, y = .str l → LampOk l → wlook r.c.ws l = none) ∧ RaiseV eLamp H E))
def spCutR : Sp := fun vs H Q E => ∃ p d R x ty, vs = [.ref p, x] ∧ Raw C Cc H p d R ∧ (∀ r ∈ R, 1 ≤ r.c.n ∧ r.c.n ≤ 999999) ∧ TyB K H x ty ∧ ((∃ r, Hit R x r ∧ ∀ H1, Ex H H1 → Q .non (upd H1 d (.dK (pkv (R.filter fun x => decide (x.c.n ≠ r.c.n)))))) ∨ (Miss R x ∧ RaiseV eCue H E))
def spCueR : Sp := fun vs H Q E => ∃ p d R ls x ty, vs = [.ref p, x] ∧ Raw C Cc H p d R ∧ Bound R ls ∧ TyB K H x ty ∧ ((∃ r, Hit R x r ∧ RetC r.c (MC.sortW r.c.ws) H Q) ∨ (Miss R x ∧ RaiseV eCue H E))
def spPutR : Sp := fun vs H Q E => ∃ p d R x ty u tu v tv b, vs = [.ref p, x, u, v, .bl b] ∧ Raw C Cc H p d R ∧ R.length ≤ 100 ∧ TyB K H x ty ∧ TyB K H u tu ∧ TyB K H v tv ∧
  ((numIn x 1 999999 = false ∧ RaiseV eCue H E) ∨ (numIn x 1 999999 = true ∧ (∃ r, Hit R x r) ∧ RaiseV eTaken H E) ∨ (numIn x 1 999999 = true ∧ Miss R x ∧ (numIn u 0 6000 = false ∨ numIn v 0 6000 = false) ∧ RaiseV eTime H E) ∨
    (numIn x 1 999999 = true ∧ Miss R x ∧ numIn u 0 6000 = true ∧ numIn v 0 6000 = true ∧ 100 ≤ R.length ∧ RaiseV eMany H E) ∨
    (∃ n up down, x = .int n ∧ u = .int up ∧ v = .int down ∧ 1 ≤ n ∧ n ≤ 999999 ∧ 0 ≤ up ∧ up ≤ 6000 ∧ 0 ≤ down ∧ down ≤ 6000 ∧ Miss R x ∧ R.length < 100 ∧
      ∀ H1 r, Ex H H1 → H r.ca = none → H r.wa = none → r.c = ⟨n, up, down, b, []⟩ → H1 r.ca = some (.ins Cc r.dx r.flds) → H1 r.wa = some (.dK []) → Q .non (upd H1 d (.dK (pkv (R ++ [r]))))))
/-- the book is changed, as g says -/
def DoneR (p d : Addr) (R : List PRow) (g : Bk → Prop) (H : Hp) (Q : VK) : Prop := ∀ H' R', Raw C Cc H' p d R' → g (pk R') → Mv (PF p d R) H (PF p d R') H' → Q .non H'
def spOnlyR : Sp := fun vs H Q E => ∃ p d R ls x ty y tz u tw, vs = [.ref p, x, y, u] ∧ Raw C Cc H p d R ∧ Bound R ls ∧ TyB K H x ty ∧ TyB K H y tz ∧ TxtOk y ∧ TyB K H u tw ∧ TabX H Pt ∧ (∀ l ∈ ls, LampOk l) ∧ (∀ r ∈ R, ∀ y ∈ r.c.ws, 0 ≤ y.2 ∧ y.2 ≤ 100) ∧
  ((∃ r l v, Hit R x r ∧ y = .str l ∧ l ∈ ls ∧ u = .int v ∧ 0 ≤ v ∧ v ≤ 100 ∧ DoneR C Cc p d R (fun B' => SameB B' (onlyB (pk R) r.c.n l v)) H Q) ∨ (Miss R x ∧ RaiseV eCue H E) ∨ ((∃ r, Hit R x r) ∧ lampIs y = false ∧ RaiseV eLamp H E) ∨ ((∃ r, Hit R x r) ∧ lampIs y = true ∧ numIn u 0 100 = false ∧ RaiseV eLevel H E))
def spLiftR : Sp := fun vs H Q E => ∃ p d R ls x ty, vs = [.ref p, x] ∧ Raw C Cc H p d R ∧ Bound R ls ∧ TyB K H x ty ∧ TabX H Pt ∧ (∀ l ∈ ls, LampOk l) ∧ (∀ r ∈ R, ∀ y ∈ r.c.ws, 0 ≤ y.2 ∧ y.2 ≤ 100) ∧
  ((∃ r, Hit R x r ∧ DoneR C Cc p d R (fun B' => SameB B' (liftB (pk R) r.c.n ls)) H Q) ∨ (Miss R x ∧ RaiseV eCue H E))
end
end RL

/-! fields stored and read; statements of the program's methods -/
namespace RS
open PySem PySem.Spec PyProof.Rows L2 Evl HB HS MB HW HM PI MC HJ MD MX RP RQ RL
/-- e.f within a block: the kind named -/
theorem pe_fldK {X : Cx} {K : PySem.W.Frag} {e : Expr} {f : Str} {pos : Pos} {ta : TE} (he : PE X e ta) (hb : attributeBase e f X.env (eval e X.env) = eval e X.env) (hK : X.K = K := by rfl) : PE X (.Attribute e f pos) (tFld K ta f) := by
  subst hK
  exact pe_fld he hb
theorem lk_eq {f g : Str} {v : V} {r : List (Str × V)} (h : f = g) : List.lookup f ((g, v) :: r) = some v := by
  have hb : (f == g) = true := beq_iff_eq.mpr h
  simp [List.lookup, hb]
theorem lk_ne {f g : Str} {v : V} {r : List (Str × V)} (h : ¬ f = g) : List.lookup f ((g, v) :: r) = List.lookup f r := by
  have hb : (f == g) = false := by simpa using h
  simp [List.lookup, hb]
theorem putF_new {f : Str} {v : V} : ∀ {fs : List (Str × V)}, fs.lookup f = none → putF f v fs = fs ++ [(f, v)]
  | [], _ => rfl
  | (g, x) :: r, h => by
    by_cases e : f = g
    · rw [lk_eq e] at h; cases h
    · rw [lk_ne e] at h
      show (if g = f then _ else (g, x) :: putF f v r) = _
      rw [if_neg fun z => e z.symm, putF_new h]; rfl
theorem flds_up (r : PRow) : r.flds.lookup ("up" : Str) = some (.int r.c.up) := lk_eq rfl
theorem flds_down (r : PRow) : r.flds.lookup ("down" : Str) = some (.int r.c.down) := (lk_ne (by decide +kernel)).trans (lk_eq rfl)
theorem flds_fresh (r : PRow) : r.flds.lookup ("fresh" : Str) = some (.bl r.c.fr) := (lk_ne (by decide +kernel)).trans ((lk_ne (by decide +kernel)).trans (lk_eq rfl))
theorem flds_words (r : PRow) : r.flds.lookup ("words" : Str) = some (.ref r.wa) := (lk_ne (by decide +kernel)).trans ((lk_ne (by decide +kernel)).trans ((lk_ne (by decide +kernel)).trans (lk_eq rfl)))
theorem flds_kept (r : PRow) : r.flds.lookup ("kept" : Str) = none := (lk_ne (by decide +kernel)).trans ((lk_ne (by decide +kernel)).trans ((lk_ne (by decide +kernel)).trans ((lk_ne (by decide +kernel)).trans rfl)))
theorem flds_mk (r : PRow) : putF "words" (.ref r.wa) (putF "fresh" (.bl r.c.fr) (putF "down" (.int r.c.down) (putF "up" (.int r.c.up) []))) = r.flds := by
  have e1 : putF "up" (.int r.c.up) [] = ([("up", V.int r.c.up)] : List (Str × V)) := rfl
  have e2 : putF "down" (.int r.c.down) ([("up", V.int r.c.up)] : List (Str × V)) = ([("up", V.int r.c.up), ("down", .int r.c.down)] : List (Str × V)) := putF_new ((lk_ne (by decide +kernel)).trans rfl)
  have e3 : putF "fresh" (.bl r.c.fr) ([("up", V.int r.c.up), ("down", .int r.c.down)] : List (Str × V)) = ([("up", V.int r.c.up), ("down", .int r.c.down), ("fresh", .bl r.c.fr)] : List (Str × V)) := putF_new ((lk_ne (by decide +kernel)).trans ((lk_ne (by decide +kernel)).trans rfl))
  rw [e1, e2, e3]
  exact putF_new ((lk_ne (by decide +kernel)).trans ((lk_ne (by decide +kernel)).trans ((lk_ne (by decide +kernel)).trans rfl)))
/-- the attributes of a play -/
def pfs (d : Addr) : List (Str × V) := [("_cues", .ref d)]
theorem pfs_c (d : Addr) : (pfs d).lookup ("_cues" : Str) = some (.ref d) := lk_eq rfl
theorem pfs_no (d : Addr) {m : Str} (h : ¬ m = "_cues") : (pfs d).lookup m = none := (lk_ne h).trans rfl
theorem len1000 {n : Nat} (h : n < 100) : n < 1000 := by omega
/-- is the value the number of a cue -/
def inD (R : List PRow) (x : V) : Bool := match x with
  | .int n => (valV (pkv R) (.inl n)).isSome
  | _ => false
theorem inD_int (R : List PRow) (n : Int) : inD R (.int n) = (valV (pkv R) (.inl n)).isSome := rfl
theorem inD_hit {R : List PRow} {x : V} {r : PRow} (nd : ((pk R).map (·.n)).Nodup) (h : Hit R x r) : inD R x = true := by rw [h.2, inD_int, val_row nd h.1]; rfl
theorem inD_miss {R : List PRow} {x : V} (h : Miss R x) : inD R x = false := by
  cases x with
  | int n => rw [inD_int, val_no fun r hr e => h r hr (by rw [e])]; rfl
  | _ => rfl
section
variable {σ : L2.St} {H H' : Hp} {K : PySem.W.Frag} {x y z v : V} {ta tb te to td tv ty : TE} {t : TA} {tt : TT} {f m : Str} {a C dx : Addr} {fs : List (Str × V)} {vs : List V} {ds : List V} {E : XK} {D : Ends} {tu tz : TS}
theorem q_asgQ {i : Nat} {te : TE} (h : te σ H fun v H1 => tz D (σ.set i (some v)) H1) : tSeq (tAsg te (gName i)) tz D σ H := h
theorem q_dropQ {te : TE} (h : te σ H fun _ H1 => tz D σ H1) : tSeq (tDrop te) tz D σ H := h
theorem len1 {f : Str} {v : V} : (putF f v []).length < 100 := by show 1 < 100; decide
theorem putF_len {f : Str} {v : V} : ∀ {fs : List (Str × V)}, (putF f v fs).length ≤ fs.length + 1
  | [] => Nat.le_refl 1
  | (g, x) :: r => by
    show (if g = f then (g, v) :: r else (g, x) :: putF f v r).length ≤ _
    split
    · rw [List.length_cons, List.length_cons]; omega
    · have := putF_len (f := f) (v := v) (fs := r)
      rw [List.length_cons, List.length_cons]; omega
theorem len2 {f g : Str} {v x : V} : (putF g x (putF f v [])).length < 100 := by
  have a := putF_len (f := g) (v := x) (fs := putF f v [])
  have b := putF_len (f := f) (v := v) (fs := [])
  rw [List.length_nil] at b; omega
theorem len3 {f g h : Str} {v x y : V} : (putF h y (putF g x (putF f v []))).length < 100 := by
  have a := putF_len (f := g) (v := x) (fs := putF f v [])
  have b := putF_len (f := f) (v := v) (fs := [])
  have c := putF_len (f := h) (v := y) (fs := putF g x (putF f v []))
  rw [List.length_nil] at b; omega
theorem q_fld (hv : Ev tv σ H v) (ho : Ev ta σ H (.ref a)) (ha : H a = some (.ins C dx fs)) (c : Cls K C) (n : NoAttr K C f) (hl : fs.length < 100) (k : ∀ H1, Ex H H1 → tz D σ (upd H1 a (.ins C dx (putF f v fs)))) : tSeq (sFld K ta tv f) tz D σ H :=
  hv H (Ex.refl H) _ fun H1 e1 => ho H1 e1 _ fun H2 e2 => ⟨a, C, dx, fs, rfl, e2 _ _ (e1 _ _ ha), c, n, len1000 hl, k H2 (e1.trans e2)⟩
theorem s_fld (hv : Ev tv σ H v) (ho : Ev ta σ H (.ref a)) (ha : H a = some (.ins C dx fs)) (c : Cls K C) (n : NoAttr K C f) (hl : fs.length < 100) (k : ∀ H1, Ex H H1 → D.nx σ (upd H1 a (.ins C dx (putF f v fs)))) : sFld K ta tv f D σ H :=
  hv H (Ex.refl H) _ fun H1 e1 => ho H1 e1 _ fun H2 e2 => ⟨a, C, dx, fs, rfl, e2 _ _ (e1 _ _ ha), c, n, len1000 hl, k H2 (e1.trans e2)⟩
/-- a new dict stored -/
theorem s_fldD {kvs : List (Key × V)} (hv : EvD tv σ H kvs) (ho : ∀ H1, Ex H H1 → Ev ta σ H1 (.ref a)) (ha : H a = some (.ins C dx fs)) (c : Cls K C) (n : NoAttr K C f) (hl : fs.length < 100) (k : ∀ d H1, H d = none → Ex H H1 → H1 d = some (.dK kvs) → D.nx σ (upd H1 a (.ins C dx (putF f (.ref d) fs)))) : sFld K ta tv f D σ H :=
  hv H (Ex.refl H) _ fun d H1 nd e1 h1 => ho H1 e1 H1 (Ex.refl H1) _ fun H2 e2 => ⟨a, C, dx, fs, rfl, e2 _ _ (e1 _ _ ha), c, n, len1000 hl, k d H2 nd (e1.trans e2) (e2 _ _ h1)⟩
theorem q_fldD {kvs : List (Key × V)} (hv : EvD tv σ H kvs) (ho : ∀ H1, Ex H H1 → Ev ta σ H1 (.ref a)) (ha : H a = some (.ins C dx fs)) (c : Cls K C) (n : NoAttr K C f) (hl : fs.length < 100) (k : ∀ d H1, H d = none → Ex H H1 → H1 d = some (.dK kvs) → tz D σ (upd H1 a (.ins C dx (putF f (.ref d) fs)))) : tSeq (sFld K ta tv f) tz D σ H := s_fldD (D := { D with nx := tz D }) hv ho ha c n hl k
/-- del d[k] -/
theorem s_ddel {kvs : List (Key × V)} {k : Key} (hd : Ev td σ H (.ref a)) (hk : Ev ty σ H (kV k)) (h : H a = some (.dK kvs)) (hv : (valV kvs k).isSome = true) (q : ∀ H1, Ex H H1 → D.nx σ (upd H1 a (.dK (dropK kvs k)))) : sDDel td ty D σ H :=
  hd H (Ex.refl H) _ fun H1 e1 => hk H1 e1 _ fun H2 e2 => ⟨a, kvs, k, rfl, e2 _ _ (e1 _ _ h), rfl, hv, q H2 (e1.trans e2)⟩
/-- sorted(d), d with whole numbers as keys -/
theorem el_sortK {kvs : List (Key × V)} {B : Bk} (hd : Ev td σ H (.ref a)) (h : Rd H a (.dK kvs)) (hk : kvs.map (·.1) = (B.map (·.n)).map Sum.inl) : EvL (tCB rSortD (tCons td tNil)) σ H ((asc B).map fun c => V.int c.n) := fun H1 e Q q =>
  hd H1 e _ fun H2 e2 => ⟨a, kvs, B.map (·.n), rfl, ex_rd (e.trans e2) h, hk, fun ns p hp hs np => by
    have eq := asc_nums hp hs
    refine q p _ (fresh_back e2 np) (e2.trans (Ex.new np)) ?_
    rw [upd_same, eq, List.map_map]
    rfl⟩
theorem ev_isN (h : Ev te σ H x) : Ev (tOp (fun x y H Q => y = .non ∧ Q (.bl (decide (x = .non))) H) te (tC .non)) σ H (.bl (decide (x = .non))) := fun H1 e Q q => h H1 e _ fun H2 e2 => ⟨rfl, q H2 e2⟩
/-- len(d) -/
theorem ev_lenK {kvs : List (Key × V)} (h : Ev te σ H (.ref a)) (hd : H a = some (.dK kvs)) : Ev (tCB (fun xs H Q => ∃ a kvs, xs = [V.ref a] ∧ H a = some (.dK kvs) ∧ Q (.int kvs.length) H) (tCons te tNil)) σ H (.int (kvs.length : Int)) := fun H1 e Q q =>
  h H1 e _ fun H2 e2 => ⟨a, kvs, rfl, e2 _ _ (e _ _ hd), q H2 e2⟩
end
/-! ### going through the cues -/
theorem lvl_asc {B : Bk} (nd : (B.map (·.n)).Nodup) (n : Int) (l : Str) : lvl B n l = lvlD ((asc B).filter fun c => decide (c.n ≤ n)).reverse l := by
  unfold lvl
  rw [desc_asc nd, List.filter_reverse]
theorem take_next {α : Type} {xs : List α} {i : Nat} {x : α} (h : xs[i]? = some x) : xs.take (i + 1) = xs.take i ++ [x] := by
  rw [List.take_add_one, h]; rfl
theorem asc_row {R : List PRow} {i : Nat} {c : Cu} (h : (asc (pk R))[i]? = some c) : ∃ r ∈ R, r.c = c := by
  obtain ⟨r, hr, e⟩ := List.mem_map.mp ((asc_perm (pk R)).mem_iff.mp (List.mem_of_getElem? h))
  exact ⟨r, hr, e⟩
theorem few_of {ws : List (Str × Int)} {ls : List Str} (nd : (ws.map (·.1)).Nodup) (h : ∀ l ∈ ws.map (·.1), l ∈ ls) (few : ls.length < 64) : ws.length < 64 := by
  have := nodup_len nd h
  rw [List.length_map] at this
  omega
theorem lvl_holds_off {o : Option Int} {k : Int} {j : Str} : ∀ (ps : List (Str × Int)) {B : Bk}, (B.map (·.n)).Nodup → j ∉ ps.map (·.1) → lvl (holdsB B o ps) k j = lvl B k j
  | [], _, _, _ => rfl
  | p :: r, B, nd, h => by
    rw [List.map_cons, List.mem_cons, not_or] at h
    show lvl (holdsB (holdB B o p.1 p.2) o r) k j = _
    rw [lvl_holds_off r (nd_holdB nd) h.2, lvl_hold_other nd h.1]
theorem holds_snoc (B : Bk) (o : Option Int) (ps : List (Str × Int)) (p : Str × Int) : holdsB B o (ps ++ [p]) = holdB (holdsB B o ps) o p.1 p.2 := by
  unfold holdsB
  rw [List.foldl_append]; rfl
theorem raw_tab {C Cc : Addr} {H : Hp} {p d Pt : Addr} {R : List PRow} (raw : Raw C Cc H p d R) (tab : GX.TabX H Pt) : ¬ PF p d R Pt := fun z => by
  have tab : H Pt = some _ := tab
  rcases z with rfl | rfl | ⟨r, hr, rfl | rfl⟩
  · obtain ⟨dx, ob⟩ := raw.ob
    rw [ob] at tab; cases tab
  · rw [raw.dc] at tab; cases tab
  · rw [(raw.row r hr).1] at tab; cases tab
  · rw [(raw.row r hr).2] at tab; cases tab
theorem bound_mod {R : List PRow} {ls : List Str} {n : Int} {l : Str} {v : Int} (h : Bound R ls) (hl : l ∈ ls) : Bound (modP R n fun ws => wput ws l v) ls := by
  refine ⟨fun r hr y hy => ?_, h.2.1, by unfold modP; rw [List.length_map]; exact h.2.2.1, fun r hr => ?_⟩
  · obtain ⟨r0, h0, rfl⟩ := List.mem_map.mp hr
    by_cases e : r0.c.n = n
    · rw [if_pos e] at hy
      rcases PS.wput_mem hy with hy | hy
      · exact h.1 r0 h0 y hy
      · rw [hy]; exact hl
    · rw [if_neg e] at hy
      exact h.1 r0 h0 y hy
  · obtain ⟨r0, h0, rfl⟩ := List.mem_map.mp hr
    by_cases e : r0.c.n = n
    · rw [if_pos e]; exact h.2.2.2 r0 h0
    · rw [if_neg e]; exact h.2.2.2 r0 h0
theorem bound_less {R : List PRow} {ls : List Str} (f : PRow → Bool) (h : Bound R ls) : Bound (R.filter f) ls :=
  ⟨fun r hr => h.1 r (List.mem_filter.mp hr).1, h.2.1, Nat.le_trans (List.length_filter_le _ _) h.2.2.1, fun r hr => h.2.2.2 r (List.mem_filter.mp hr).1⟩
/-- levels within their bounds -/
def Lv (R : List PRow) : Prop := ∀ r ∈ R, ∀ y ∈ r.c.ws, 0 ≤ y.2 ∧ y.2 ≤ 100
theorem lvlD_in {l : Str} : ∀ {cs : List Cu}, (∀ c ∈ cs, ∀ y ∈ c.ws, 0 ≤ y.2 ∧ y.2 ≤ 100) → 0 ≤ lvlD cs l ∧ lvlD cs l ≤ 100
  | [], _ => ⟨Int.le_refl 0, show (0 : Int) ≤ 100 by decide⟩
  | c :: r, h => by
    unfold MB.lvlD
    cases q : wlook c.ws l with
    | some v => exact h c List.mem_cons_self _ (wlook_mem q)
    | none =>
      show 0 ≤ (if c.fr = true then 0 else MB.lvlD r l) ∧ (if c.fr = true then 0 else MB.lvlD r l) ≤ 100
      by_cases f : c.fr = true
      · rw [if_pos f]; decide
      · rw [if_neg f]; exact lvlD_in fun d hd => h d (List.mem_cons_of_mem _ hd)
theorem lvl_in {R : List PRow} (h : Lv R) (n : Int) (l : Str) : 0 ≤ lvl (pk R) n l ∧ lvl (pk R) n l ≤ 100 := lvlD_in fun c hc => by
  obtain ⟨r, hr, rfl⟩ := List.mem_map.mp ((desc_perm _).mem_iff.mp (List.mem_filter.mp hc).1)
  exact h r hr
theorem lvl_key {R : List PRow} {ls : List Str} (h : ∀ r ∈ R, ∀ y ∈ r.c.ws, y.1 ∈ ls) {n : Int} {l : Str} (hl : lvl (pk R) n l ≠ 0) : l ∈ ls := by
  obtain ⟨c, hc, x, hx, rfl⟩ := lvl_mem hl
  obtain ⟨r, hr, rfl⟩ := List.mem_map.mp hc
  exact h r hr x hx
theorem look_getD {B : Bk} {n : Int} {ws : List (Str × Int)} (h : LookIs B n ws) (nn : ∀ l, 0 ≤ lvl B n l) (l : Str) : (wlook ws l).getD 0 = lvl B n l := by
  cases q : wlook ws l with
  | some v => exact ((h.mem l v).mp (wlook_mem q)).1
  | none =>
    have := nn l
    by_cases e : 0 < lvl B n l
    · have hm := wlook_of (tlt_nd h.up) ((h.mem l _).mpr ⟨rfl, e⟩)
      rw [q] at hm; cases hm
    · show (0 : Int) = _
      omega
theorem cov_pk {R : List PRow} {ls : List Str} (h : ∀ r ∈ R, ∀ y ∈ r.c.ws, y.1 ∈ ls) : ∀ c ∈ pk R, ∀ x ∈ c.ws, x.1 ∈ ls := fun c hc => by
  obtain ⟨r, hr, rfl⟩ := List.mem_map.mp hc
  exact h r hr
section
variable {σ : L2.St} {H H' : Hp} {tl : TE} {D : Ends} {tu : TS}
theorem s_forKeysN {kvs : List (Key × V)} {j : Nat} (h : EvD tl σ H kvs) (Pv : Addr → Obj → Nat → L2.St → Hp → Prop) (h0 : ∀ d o H1, H d = none → Ex H H1 → H1 d = some (.frz o (.dK kvs)) → Pv d o 0 σ H1) (hl : ∀ d o i σ' H', Pv d o i σ' H' → H' d = some (.frz o (.dK kvs)))
    (hs : ∀ d o i k x σ' H', kvs[i]? = some (k, x) → Pv d o i σ' H' → tu { D with nx := Pv d o (i + 1), ct := Pv d o (i + 1), bk := D.nx } (σ'.set j (some (kV k))) H') (hd : ∀ d o σ' H', Pv d o kvs.length σ' H' → D.nx σ' H') : tFor (iKeysN tl) (gName j) tu D σ H :=
  q_forKeysN (tz := fun D => D.nx) h Pv h0 hl hs hd
end
end RS

/-! the landed play keeps what the law's side asks of a play -/
namespace RT
open PySem PySem.Spec PyProof.Rows L2 Evl HB GX MB HW HM PI MC HJ HG PS MD MX RP RQ RM RL RS
/-- Play(), at the new instance -/
def spPlayI (C : Addr) : Sp := fun vs H Q _ => ∃ x dx, vs = [.ref x] ∧ H x = some (.ins C dx []) ∧ ∀ (d : Addr) (H1 : Hp), H d = none → H1 d = some (.dK []) → H1 x = some (.ins C dx (pfs d)) → (∀ b o, H b = some o → b ≠ x → H1 b = some o) → Q .non H1
/-- a play as it lies, for the law -/
def playAt (C Cc : Addr) (tb : Addr → Prop) (full more : Prop) : AtT := ⟨fun H p ls B fp => ∃ d R, Raw C Cc H p d R ∧ SameB (pk R) B ∧ Good ls B ∧ (∀ b, tb b → TabX H b) ∧ fp = PF p d R, tb, full, more⟩
section
variable {ls : List Str} {B : Bk}
theorem good_mod (G : Good ls B) (n : Int) (g : List (Str × Int) → List (Str × Int)) (hn : ∀ ws, (ws.map (·.1)).Nodup → ((g ws).map (·.1)).Nodup) (hm : ∀ ws x, x ∈ g ws → x ∈ ws ∨ (x.1 ∈ ls ∧ 0 ≤ x.2 ∧ x.2 ≤ 100)) : Good ls (modB B n g) := by
  have at_ : ∀ c ∈ modB B n g, ∃ c0 ∈ B, c.n = c0.n ∧ c.up = c0.up ∧ c.down = c0.down ∧ (c.ws = c0.ws ∨ c.ws = g c0.ws) := fun c hc => by
    obtain ⟨c0, h0, rfl⟩ := List.mem_map.mp hc
    refine ⟨c0, h0, ?_⟩
    by_cases e : c0.n = n
    · rw [if_pos e]; exact ⟨rfl, rfl, rfl, .inr rfl⟩
    · rw [if_neg e]; exact ⟨rfl, rfl, rfl, .inl rfl⟩
  have hw : ∀ c ∈ modB B n g, ∀ x ∈ c.ws, x.1 ∈ ls ∧ 0 ≤ x.2 ∧ x.2 ≤ 100 := fun c hc x hx => by
    obtain ⟨c0, h0, _, _, _, e | e⟩ := at_ c hc
    · rw [e] at hx; exact ⟨G.lam c0 h0 x hx, (G.cue c0 h0).lv x hx⟩
    · rw [e] at hx
      rcases hm _ _ hx with h | h
      · exact ⟨G.lam c0 h0 x h, (G.cue c0 h0).lv x h⟩
      · exact h
  have nums : (modB B n g).map (·.n) = B.map (·.n) := by
    unfold modB
    rw [List.map_map]
    refine List.map_congr_left fun c _ => ?_
    show (if c.n = n then _ else c).n = c.n
    split <;> rfl
  refine ⟨by rw [nums]; exact G.nd, by unfold modB; rw [List.length_map]; exact G.len, fun c hc => ?_, fun c hc x hx => (hw c hc x hx).1, G.ok, G.few⟩
  obtain ⟨c0, h0, e1, e2, e3, e4⟩ := at_ c hc
  have k := G.cue c0 h0
  refine ⟨by rw [e1]; exact k.n1, by rw [e1]; exact k.n2, by rw [e2]; exact k.u1, by rw [e2]; exact k.u2, by rw [e3]; exact k.d1, by rw [e3]; exact k.d2, ?_, fun x hx => (hw c hc x hx).2⟩
  rcases e4 with e | e
  · rw [e]; exact k.nd
  · rw [e]; exact hn _ k.nd
theorem good_set (G : Good ls B) (n : Int) {l : Str} {v : Int} (hl : l ∈ ls) (v1 : 0 ≤ v) (v2 : v ≤ 100) : Good ls (setW B n l v) := by
  rw [setW_mod]
  exact good_mod G n _ (fun ws => wput_keys ws l v) fun ws x hx => (wput_mem hx).elim .inl fun e => .inr (by rw [e]; exact ⟨hl, v1, v2⟩)
theorem good_drop (G : Good ls B) (n : Int) (l : Str) : Good ls (dropW B n l) := good_mod G n _ (fun ws => wdrop_keys ws l) fun ws x hx => .inl (List.mem_filter.mp hx).1
theorem good_hold (G : Good ls B) (o : Option Int) {l : Str} {v : Int} (hl : l ∈ ls) (v1 : 0 ≤ v) (v2 : v ≤ 100) : Good ls (holdB B o l v) := by
  cases o with
  | none => exact G
  | some k =>
    show Good ls (if lvl B k l = v then B else setW B k l v)
    split
    · exact G
    · exact good_set G k hl v1 v2
theorem good_holds (o : Option Int) : ∀ (ps : List (Str × Int)) {B : Bk}, Good ls B → (∀ y ∈ ps, y.1 ∈ ls ∧ 0 ≤ y.2 ∧ y.2 ≤ 100) → Good ls (holdsB B o ps)
  | [], _, G, _ => G
  | p :: r, _, G, h => good_holds o r (good_hold G o (h p List.mem_cons_self).1 (h p List.mem_cons_self).2.1 (h p List.mem_cons_self).2.2) fun y hy => h y (List.mem_cons_of_mem _ hy)
theorem good_cut (G : Good ls B) (n : Int) : Good ls (cutB B n) :=
  ⟨G.nd.sublist (List.filter_sublist.map _), Nat.le_trans (List.length_filter_le _ _) G.len, fun c hc => G.cue c (List.mem_filter.mp hc).1, fun c hc => G.lam c (List.mem_filter.mp hc).1, G.ok, G.few⟩
theorem due_in (G : Good ls B) (o : Option Int) (l : Str) : 0 ≤ dueB B o l ∧ dueB B o l ≤ 100 := by
  cases o with
  | none => show (0 : Int) ≤ 0 ∧ (0 : Int) ≤ 100; decide
  | some k => exact ⟨lvl_nn G k l, lvl_le G k l⟩
theorem good_only (G : Good ls B) (n : Int) {l : Str} {v : Int} (hl : l ∈ ls) (v1 : 0 ≤ v) (v2 : v ≤ 100) : Good ls (onlyB B n l v) := good_hold (good_set G n hl v1 v2) _ hl (due_in G _ l).1 (due_in G _ l).2
theorem good_lift (G : Good ls B) (n : Int) : Good ls (liftB B n ls) := good_holds _ _ (good_cut G n) fun y hy => by
  obtain ⟨l, hl, rfl⟩ := List.mem_map.mp hy
  exact ⟨hl, due_in G _ l⟩
/-! ### rows and the book -/
variable {R : List PRow} {C Cc : Addr} {H : Hp} {p d : Addr}
theorem rows_in (raw : Raw C Cc H p d R) (sm : SameB (pk R) B) (G : Good ls B) : ∀ r ∈ R, ∀ y ∈ r.c.ws, y.1 ∈ ls ∧ 0 ≤ y.2 ∧ y.2 ≤ 100 := fun r hr y hy => by
  obtain ⟨c, hc, k⟩ := sm.at_ (List.mem_map.mpr ⟨r, hr, rfl⟩)
  have h := wlook_of (raw.wn r hr) hy
  rw [k.ws] at h
  have hm := wlook_mem h
  exact ⟨G.lam c hc _ hm, (G.cue c hc).lv _ hm⟩
theorem bound_of (raw : Raw C Cc H p d R) (sm : SameB (pk R) B) (G : Good ls B) : Bound R ls :=
  ⟨fun r hr y hy => (rows_in raw sm G r hr y hy).1, G.few, by have := sm.len; have z := G.len; unfold pk at this; rw [List.length_map] at this; omega, fun r hr => by
    obtain ⟨c, hc, k⟩ := sm.at_ (List.mem_map.mpr ⟨r, hr, rfl⟩)
    have g := G.cue c hc
    have e : r.c.n = c.n := k.n
    rw [e]
    exact ⟨g.n1, g.n2⟩⟩
theorem lv_of (raw : Raw C Cc H p d R) (sm : SameB (pk R) B) (G : Good ls B) : Lv R := fun r hr y hy => (rows_in raw sm G r hr y hy).2
theorem row_n (sm : SameB (pk R) B) {n : Int} (h : n ∈ B.map (·.n)) : ∃ r ∈ R, r.c.n = n := by
  rw [← sm.nums, pk_n] at h
  obtain ⟨r, hr, e⟩ := List.mem_map.mp h
  exact ⟨r, hr, e⟩
theorem row_c (raw : Raw C Cc H p d R) (sm : SameB (pk R) B) (G : Good ls B) {n : Int} {c : Cu} (h : cueAt B n = some c) : ∃ r ∈ R, r.c.n = n ∧ SameC r.c c := by
  obtain ⟨hc, en⟩ := cueAt_mem h
  obtain ⟨r, hr, e⟩ := row_n sm (List.mem_map.mpr ⟨c, hc, en⟩)
  obtain ⟨c', hc', k⟩ := sm.at_ (List.mem_map.mpr ⟨r, hr, rfl⟩)
  have : c' = c := nodup_at G.nd hc' hc (by show c'.n = c.n; rw [← k.n, e, en])
  rw [this] at k
  exact ⟨r, hr, e, k⟩
theorem miss_of (sm : SameB (pk R) B) {n : Int} (h : n ∉ B.map (·.n)) : Miss R (.int n) := fun r hr e => h (by
  rw [← sm.nums, pk_n]
  exact List.mem_map.mpr ⟨r, hr, (V.int.inj e).symm⟩)
theorem look_iff (sm : SameB (pk R) B) (G : Good ls B) {n : Int} {ws : List (Str × Int)} : LookIs (pk R) n ws ↔ LookIs B n ws :=
  ⟨fun h => ⟨h.up, fun l v => by rw [h.mem, sm.lvl G.nd]⟩, fun h => ⟨h.up, fun l v => by rw [h.mem, sm.lvl G.nd]⟩⟩
end
section
variable {P : Program} {w : World} {K : PySem.W.Frag} {mg : Str → Option Value} {base : Heap} {Pt C Cc eCue eTaken eMany eLamp eLevel eTime : Addr} {tb : Addr → Prop} {full more : Prop}
theorem TxtOk.str {l : Str} (h : LampOk l) : TxtOk (.str l) := fun t e => by
  cases e
  have := h.len
  exact sz_of (by omega)
/-- after a deed -/
theorem at_deed {H H' : Hp} {p d : Addr} {R R' : List PRow} {ls : List Str} {B' : Bk} {fp : Addr → Prop} (raw : Raw C Cc H p d R) (tabs : ∀ b, tb b → TabX H b) (efp : fp = PF p d R) (raw' : Raw C Cc H' p d R') (mv : Mv (PF p d R) H (PF p d R') H') (sm : SameB (pk R') B') (G : Good ls B') :
    (playAt C Cc tb full more) H' p ls B' (PF p d R') ∧ Mv fp H (PF p d R') H' :=
  ⟨⟨d, R', raw', sm, G, fun b hb => (mv.off (tabs b hb) (raw_tab raw (tabs b hb))).1, rfl⟩, by rw [efp]; exact mv⟩
theorem pl_of (cls : Cls K C) (gP : mg "Play" = some (.ref C)) (htb : tb Pt) (cP : COk P w K mg base C 1 ["self"] (spPlayI C)) (mN : MOk P w K mg base C "numbers" 1 ["self"] [] (spNums C Cc)) (mL : full → MOk P w K mg base C "look" 5 ["self", "number"] [] (spLookR K C Cc eCue))
    (mV : MOk P w K mg base C "level" 5 ["self", "number", "lamp"] [] (spLevelR K Pt C Cc eCue eLamp)) (mC : MOk P w K mg base C "cue" 4 ["self", "number"] [] (spCueR K C Cc eCue))
    (mP4 : MOk P w K mg base C "put" 3 ["self", "number", "up", "down", "fresh"] [] (spPutR K C Cc eCue eTaken eMany eTime)) (mP : ∀ j, j < 3 → MOk P w K mg base C "put" 3 ["self", "number", "up", "down", "fresh"] ([V.int 0, .int 0, .bl false].drop j) (spPutR K C Cc eCue eTaken eMany eTime))
    (mT : MOk P w K mg base C "tell" 4 ["self", "number", "lamp", "level"] [] (spTellR K Pt C Cc eCue eLamp eLevel)) (mU : full → MOk P w K mg base C "untell" 4 ["self", "number", "lamp"] [] (spUntellR K Pt C Cc eCue eLamp))
    (mO : more → MOk P w K mg base C "only" 7 ["self", "number", "lamp", "level"] [] (spOnlyR K Pt C Cc eCue eLamp eLevel)) (mX : more → MOk P w K mg base C "cut" 4 ["self", "number"] [] (spCutR K C Cc eCue)) (mF : more → MOk P w K mg base C "lift" 7 ["self", "number"] [] (spLiftR K Pt C Cc eCue)) :
    Pl P w K mg base C (playAt C Cc tb full more) := by
  have hput : ∀ vs H Q E, spPut (playAt C Cc tb full more) vs H Q E → spPutR K C Cc eCue eTaken eMany eTime vs H Q E := fun vs H Q E ⟨p, ls, B, fp, n, up, down, fr, e, ⟨d, R, raw, sm, G, tabs, efp⟩, hn, G2, q⟩ => by
    have g := G2.cue ⟨n, up, down, fr, []⟩ (List.mem_append_right _ List.mem_cons_self)
    have hl := G2.len
    rw [List.length_append] at hl
    have hl : B.length + 1 ≤ 100 := hl
    have e2 := sm.len
    unfold pk at e2
    rw [List.length_map] at e2
    refine ⟨p, d, R, .int n, _, .int up, _, .int down, _, fr, e, raw, by omega, .int _, .int _, .int _, .inr (.inr (.inr (.inr ⟨n, up, down, rfl, rfl, rfl, g.n1, g.n2, g.u1, g.u2, g.d1, g.d2, miss_of sm hn, by omega, fun H1 r ex n1 n2 er h1 h2 => ?_⟩)))⟩
    have no : ∀ x ∈ R, x.c.n ≠ r.c.n := fun x hx z => miss_of sm hn x hx (by rw [z, er])
    have raw' := raw.put ex no n1 n2 h1 (by rw [h2, er]; rfl) (by rw [er]; exact List.nodup_nil)
    have mv := mv_put (p := p) (R := R) ex n1 n2 (.dK (pkv (R ++ [r]))) (d := d)
    have sm' : SameB (pk (R ++ [r])) (B ++ [⟨n, up, down, fr, []⟩]) := by
      unfold pk
      rw [List.map_append]
      exact sm.app (.cons (by show SameC r.c _; rw [er]; exact .refl _) .nil)
    obtain ⟨a1, a2⟩ := at_deed raw tabs efp raw' mv sm' G2
    exact q _ _ a1 a2
  refine ⟨cls, fun ⟨_, _, _, _, G, _⟩ => G, fun {H p ls B fp} ⟨d, R, raw, _⟩ => ?_, fun {H p ls B fp} ⟨d, R, raw, _, _, _, e⟩ => by rw [e]; exact .inl rfl, fun {H p ls B fp b} ⟨d, R, raw, _, _, _, e⟩ h => by rw [e] at h; exact raw.known h, fun {H p ls B fp b} ⟨d, R, raw, _, _, tabs, e⟩ h => ⟨tabs b h, by rw [e]; exact raw_tab raw (tabs b h)⟩,
    fun {H H' p ls B fp} ⟨d, R, raw, sm, G, tabs, e⟩ k => ⟨d, R, raw.frame fun b u hb hu => k b u (.inl (by rw [e]; exact hb)) hu, sm, G, fun b hb => k b _ (.inr hb) (tabs b hb), e⟩, fun X p pos e1 e2 e3 e4 e5 hr hg => ?_, ?_, fun hm => ?_, ?_, ?_, ?_, ?_, ?_, ?_, ?_, fun hm => ?_, fun hm => ?_, fun hm => ?_, fun hm => ?_⟩
  · obtain ⟨dx, ob⟩ := raw.ob
    exact ⟨dx, _, ob, fun m hm => pfs_no d (by revert m; decide +kernel)⟩
  · subst e1 e2 e3 e4 e5
    have z := pe_co0 (x := "Play") (p := p) (pos := pos) cP (hr.mono (by decide)) hg gP passL
    refine ⟨fun pins s σ H Q I h => z.run pins s σ H Q I ?_⟩
    obtain ⟨tabs, ls, lok, few, q⟩ := h
    intro x dx nx ndx nex
    refine ⟨x, dx, rfl, upd_same, fun d H1 nd hd hx kp => ⟨rfl, ?_⟩⟩
    have ex : Ex H H1 := fun b o hb => by
      have nbx : b ≠ x := fun z => by rw [z, nx] at hb; cases hb
      have nbd : b ≠ dx := fun z => by rw [z, ndx] at hb; cases hb
      exact kp b o (by rw [upd_ne nbx, upd_ne nbd]; exact hb) nbx
    have nd0 : H d = none := by
      have ndx2 : d ≠ x := fun z => by rw [z, upd_same] at nd; cases nd
      have ndd : d ≠ dx := fun z => by rw [z, upd_ne nex, upd_same] at nd; cases nd
      rw [upd_ne ndx2, upd_ne ndd] at nd
      exact nd
    refine q H1 x (PF x d []) ⟨d, [], ⟨⟨dx, hx⟩, hd, fun r hr => absurd hr List.not_mem_nil, List.nodup_nil, List.nodup_nil, fun r hr => absurd hr List.not_mem_nil, fun r hr => absurd hr List.not_mem_nil⟩, .nil, ⟨List.nodup_nil, Nat.zero_le _, fun c hc => absurd hc List.not_mem_nil, fun c hc => absurd hc List.not_mem_nil, lok, few⟩, fun b hb => ex _ _ (tabs b hb), rfl⟩ (fun b hb => ?_) ex
    rcases hb with rfl | rfl | ⟨r, hr, _⟩
    · exact nx
    · exact nd0
    · cases hr
  · refine mN.mt (by decide) fun vs H Q E ⟨xs, ⟨p, ls, B, fp, e, ⟨d, R, raw, sm, G, _⟩, ex⟩, q⟩ => ⟨p, d, R, e, raw, ?_⟩
    have z : (asc (pk R)).map (fun c => V.int c.n) = (asc B).map fun c => V.int c.n := by
      have y := congrArg (List.map V.int) (sm.asc_ G.nd).nums
      rw [List.map_map, List.map_map] at y
      exact y
    rw [z, ← ex]
    exact q
  · refine (mL hm).mt (by decide) fun vs H Q E ⟨kvs, ⟨p, ls, B, fp, n, ws, e, ⟨d, R, raw, sm, G, _⟩, hn, hl, ek⟩, q⟩ => ?_
    obtain ⟨r, hr, er⟩ := row_n sm hn
    refine ⟨p, d, R, ls, .int n, _, e, raw, bound_of raw sm G, .int n, .inl ⟨r, ⟨hr, by rw [er]⟩, fun ws2 h2 => ?_⟩⟩
    rw [er] at h2
    rw [look_uniq ((look_iff sm G).mp h2) hl, ← ek]
    exact q
  · refine mV.mt (by decide) fun vs H Q E ⟨z, ⟨p, ls, B, fp, n, l, e, ⟨d, R, raw, sm, G, tabs, _⟩, hn, hl, ez⟩, q⟩ => ?_
    obtain ⟨r, hr, er⟩ := row_n sm hn
    refine ⟨p, d, R, ls, .int n, _, .str l, _, e, raw, bound_of raw sm G, .int n, .str l, TxtOk.str hl, tabs _ htb, .inl ⟨r, l, ⟨hr, by rw [er]⟩, rfl, hl, ?_⟩⟩
    rw [er, sm.lvl G.nd, ← ez]
    exact q
  · refine mC.mt (by decide) fun vs H Q E ⟨p, ls, B, fp, n, c, ws, e, ⟨d, R, raw, sm, G, _⟩, hc, hw, q⟩ => ?_
    obtain ⟨r, hr, er, k⟩ := row_c raw sm G hc
    refine ⟨p, d, R, ls, .int n, _, e, raw, bound_of raw sm G, .int n, .inl ⟨r, ⟨hr, by rw [er]⟩, fun t b H2 n1 n2 n3 ex h1 h2 => ?_⟩⟩
    have e2 : sortW r.c.ws = ws := words_uniq (words_is (raw.wn r hr)) ⟨hw.up, fun l v => by rw [hw.mem, k.ws]⟩
    refine q t b H2 n1 n2 n3 ex ?_ (by rw [← e2]; exact h2)
    rw [h1, k.up, k.down, k.fr]
  · exact mP4.mt (by decide) hput
  · exact (mP 2 (by decide)).mt (by decide) hput
  · exact (mP 1 (by decide)).mt (by decide) hput
  · exact (mP 0 (by decide)).mt (by decide) hput
  · refine mT.mt (by decide) fun vs H Q E ⟨p, ls, B, fp, n, l, v, e, ⟨d, R, raw, sm, G, tabs, efp⟩, hn, hl, v1, v2, q⟩ => ?_
    obtain ⟨r, hr, er⟩ := row_n sm hn
    refine ⟨p, d, R, ls, .int n, _, .str l, _, .int v, _, e, raw, bound_of raw sm G, .int n, .str l, TxtOk.str (G.ok l hl), .int v, tabs _ htb, .inl ⟨r, l, v, ⟨hr, by rw [er]⟩, rfl, G.ok l hl, rfl, v1, v2, fun H1 ex => ?_⟩⟩
    obtain ⟨a1, a2⟩ := at_deed (full := full) (more := more) raw tabs efp ((raw.ex ex).modw hr (fun ws => wput ws l v) (wput_keys _ _ _ (raw.wn r hr))) (mv_mod hr ex (fun ws => wput ws l v) _) (B' := setW B n l v) (by
      rw [pk_mod, setW_mod, er]
      exact sm.mod n _ fun ws us h j => by rw [wlook_wput, wlook_wput, h]) (good_set G n hl v1 v2)
    exact q _ _ a1 a2
  · refine (mU hm).mt (by decide) fun vs H Q E ⟨p, ls, B, fp, n, l, c, e, ⟨d, R, raw, sm, G, tabs, efp⟩, hc, hw, q⟩ => ?_
    obtain ⟨r, hr, er, k⟩ := row_c raw sm G hc
    have hl : l ∈ ls := by
      obtain ⟨v, hv⟩ := Option.isSome_iff_exists.mp hw
      exact G.lam c (cueAt_mem hc).1 _ (wlook_mem hv)
    refine ⟨p, d, R, ls, .int n, _, .str l, _, e, raw, bound_of raw sm G, .int n, .str l, TxtOk.str (G.ok l hl), tabs _ htb, .inl ⟨r, l, ⟨hr, by rw [er]⟩, rfl, G.ok l hl, by rw [k.ws]; exact hw, fun H1 ex => ?_⟩⟩
    obtain ⟨a1, a2⟩ := at_deed (full := full) (more := more) raw tabs efp ((raw.ex ex).modw hr (fun ws => wdrop ws l) (wdrop_keys _ _ (raw.wn r hr))) (mv_mod hr ex (fun ws => wdrop ws l) _) (B' := dropW B n l) (by
      rw [pk_mod, er]
      exact sm.mod n _ fun ws us h j => by rw [wlook_drop, wlook_drop, h]) (good_drop G n l)
    exact q _ _ a1 a2
  · refine (mO hm).mt (by decide) fun vs H Q E ⟨p, ls, B, fp, n, l, v, e, ⟨d, R, raw, sm, G, tabs, efp⟩, hn, hl, v1, v2, q⟩ => ?_
    obtain ⟨r, hr, er⟩ := row_n sm hn
    refine ⟨p, d, R, ls, .int n, _, .str l, _, .int v, _, e, raw, bound_of raw sm G, .int n, .str l, TxtOk.str (G.ok l hl), .int v, tabs _ htb, G.ok, lv_of raw sm G, .inl ⟨r, l, v, ⟨hr, by rw [er]⟩, rfl, hl, rfl, v1, v2, fun H' R' raw' sm' mv => ?_⟩⟩
    have z : SameB (onlyB (pk R) n l v) (onlyB B n l v) := by
      unfold onlyB
      have eb := SameB.behind sm G.nd n
      have ed : dueB (pk R) (behindOf (pk R) n) l = dueB B (behindOf B n) l := by
        rw [eb]
        cases behindOf B n with
        | none => rfl
        | some k => exact sm.lvl G.nd k l
      rw [ed, eb]
      refine SameB.hold ?_ (nd_setW G.nd) _ _ _
      rw [setW_mod, setW_mod]
      exact sm.mod n _ fun ws us h j => by rw [wlook_wput, wlook_wput, h]
    rw [er] at sm'
    obtain ⟨a1, a2⟩ := at_deed (full := full) (more := more) raw tabs efp raw' mv (sm'.trans z) (good_only G n hl v1 v2)
    exact q _ _ a1 a2
  · refine (mX hm).mt (by decide) fun vs H Q E ⟨p, ls, B, fp, n, e, ⟨d, R, raw, sm, G, tabs, efp⟩, hn, q⟩ => ?_
    obtain ⟨r, hr, er⟩ := row_n sm hn
    refine ⟨p, d, R, .int n, _, e, raw, (bound_of raw sm G).2.2.2, .int n, .inl ⟨r, ⟨hr, by rw [er]⟩, fun H1 ex => ?_⟩⟩
    obtain ⟨a1, a2⟩ := at_deed (full := full) (more := more) raw tabs efp ((raw.ex ex).less _) (mv_less ex (fun x => decide (x.c.n ≠ r.c.n)) _) (B' := cutB B n) (by
      rw [pk_less, er]
      exact sm.cut n) (good_cut G n)
    exact q _ _ a1 a2
  · refine (mF hm).mt (by decide) fun vs H Q E ⟨p, ls, B, fp, n, e, ⟨d, R, raw, sm, G, tabs, efp⟩, hn, q⟩ => ?_
    obtain ⟨r, hr, er⟩ := row_n sm hn
    refine ⟨p, d, R, ls, .int n, _, e, raw, bound_of raw sm G, .int n, tabs _ htb, G.ok, lv_of raw sm G, .inl ⟨r, ⟨hr, by rw [er]⟩, fun H' R' raw' sm' mv => ?_⟩⟩
    have z : SameB (liftB (pk R) n ls) (liftB B n ls) := by
      unfold liftB
      have eb := SameB.behind sm G.nd n
      have ed : (ls.map fun l => (l, dueB (pk R) (behindOf (pk R) n) l)) = ls.map fun l => (l, dueB B (behindOf B n) l) := List.map_congr_left fun l _ => by
        rw [eb]
        cases behindOf B n with
        | none => rfl
        | some k => show (l, lvl (pk R) k l) = (l, lvl B k l); rw [sm.lvl G.nd]
      rw [ed, eb]
      exact SameB.holds _ _ (sm.cut n) (nd_cut G.nd)
    rw [er] at sm'
    obtain ⟨a1, a2⟩ := at_deed (full := full) (more := more) raw tabs efp raw' mv (sm'.trans z) (good_lift G n)
    exact q _ _ a1 a2
end
end RT

/-! errors caught and kept: tracked behind their suite; asked for their class; raising methods within a try; xs.count(y) -/
namespace RX
open PySem PySem.Spec PyProof.Rows L2 Evl HB PI MX
/-- a caught error of the class cls, its own dict d, at a -/
def ExV (cls : Value) (d : Option Addr) (a : Addr) : HO := .ext fun h => ∃ (oe : Obj) (vs : Array Value), h.get? a = some oe ∧ Zc cls d oe ∧ oe.data = .fields vs
theorem exV_ok {P : Program} {w : World} {H : Hp} {h : Heap} {a : Addr} {cls : Value} {d : Option Addr} {oe : Obj} {vs : Array Value} (e : h.get? a = some oe) (z : Zc cls d oe) (hd : oe.data = .fields vs) : ObjOk P w H h a (ExV cls d a) :=
  ⟨⟨oe, vs, e, z, hd⟩, ⟨oe, e⟩, fun _ _ ⟨o, v, q, r⟩ k => ⟨o, v, k o q, r⟩⟩
section
variable {X : Cx} {pins : List (Addr × Obj)} {σ : L2.St} {H : Hp} {s : Shared}
/-- an object of ours, not there at the entry, is tracked from now on -/
theorem track {a : Addr} {o : HO} (I : Inv X pins σ H s) (n0 : X.s_0.heap.get? a = none) (na : H a = none) (nL : a ≠ X.env.locals) (nC : ∀ x c, X.env.cells.lookup x = some c → c ≠ a) (nP : ∀ p ∈ X.pn ++ pins, p.1 ≠ a) (ok : ObjOk X.prog X.w (upd H a o) s.heap a o) : Inv X pins σ (upd H a o) s := by
  have old : ∀ b ob, X.s_0.heap.get? b = some ob → b ≠ a := fun b ob e z => by rw [z, n0] at e; cases e
  have tr : ∀ b u, H b = some u → (upd H a o) b = some u := fun b u e => by rw [upd_ne fun z => by rw [z, na] at e; cases e]; exact e
  refine ⟨I.ok, I.os, I.bare, ⟨I.base.keep, I.base.slot, fun b ob e n hx => ?_, I.base.there, fun b xs e => tr _ _ (I.base.tups b xs e), fun b ob u e => tr _ _ (I.base.frzs b ob u e), fun b ps e => ?_⟩, I.loc, I.cell, ?_, fun x c e => ?_, fun p hp => ?_, fun b u e => ?_, I.len⟩
  · rw [upd_ne (old b ob e)]
    exact I.base.free b ob e n hx
  · obtain ⟨more, z⟩ := I.base.tbls b ps e
    exact ⟨more, tr _ _ z⟩
  · rw [upd_ne (Ne.symm nL)]; exact I.free
  · rw [upd_ne (nC x c e)]; exact I.freeC x c e
  · obtain ⟨p1, p2, p3⟩ := I.pin p hp
    exact ⟨p1, by rw [upd_ne (nP p hp)]; exact p2, p3⟩
  · by_cases hb : b = a
    · subst hb
      rw [upd_same] at e
      cases e
      exact ok
    · rw [upd_ne hb] at e
      exact (I.hok b u e).stay (fun c v _ q => q) (fun c q => tr _ _ q) fun c xs q => tr _ _ q
/-- what 'except c as n: suite' wishes of an exception of the body, where the error is kept behind the suite -/
def wVal (K : PySem.W.Frag) (c : Value) (i : Nat) (ts : Addr → Value → Option Addr → TS) (Wout : WX) (D : Ends) : WX := fun cls d σ H => ∃ b, PySem.W.exmOne K cls c = some b ∧
  (b = true → ∀ a, H a = none → ts a cls d { nx := fun σ' H' => D.nx (σ'.set i none) (upd H' a (ExV cls d a)), rt := fun _ _ => False, bk := fun _ _ => False, ct := fun _ _ => False } (σ.set i (some (.ref a))) H) ∧ (b = false → Wout cls d σ H)
variable {x n : Str} {c : Value} {i : Nat} {body suite : List Stmt} {b₀ : Stmt} {np pos pos' : Pos} {tb : WX → TS} {ts : Addr → Value → Option Addr → TS} {Wout : WX}
theorem ps_try_val (hs : X.stack = X.env :: X.outer) (hf : X.env.frame = some X.env.locals) (hN : X.N.Nodup) (hi : X.N[i]? = some n) (hln : X.env.kindOf n = some .local) (hx : X.ex = []) (hc : Names X x c) (tk : Takes X Wout)
    (hb : ∀ (W : WX) (pn : List (Addr × Obj)) (xe : Value → Shared → Prop), Takes (X.tr pn xe) W → PassesOwn (model X.prog X.w) X.A X.env xe → PSs (X.tr pn xe) body (tb W))
    (hsu : ∀ (a : Addr) (oe : Obj) (cls : Value) (d : Option Addr) (pn : List (Addr × Obj)), Zc cls d oe → (∃ vs, oe.data = .fields vs) → PSs (X.suite a ((a, oe) :: pn)) (b₀ :: suite) (ts a cls d)) :
    PS X (.Try body [.ExceptHandler (some (.Name x np)) (some n) (b₀ :: suite) pos'] [] [] pos) (fun D σ H => tb (wVal X.K c i ts Wout D) D σ H) := by
  refine ⟨fun pins s σ H D I h => ?_⟩
  have ok := I.ok
  have fr : X.A.frames = some (X.env :: X.outer) := by rw [ok.frames, hs]
  -- what is done with an exception that comes out of the body
  let catch_ : Value → Shared → Prop := fun e s₁ => wpAny (model X.prog X.w) X.A (noteFrame e X.env) (fun _ s₂ => wpAny (model X.prog X.w) X.A (setFlight e none) (fun _ s₃ =>
    wpAny (model X.prog X.w) X.A (handleBy e X.env [.ExceptHandler (some (.Name x np)) (some n) (b₀ :: suite) pos']) (SP X pins D) X.xe s₃) X.xe s₂) X.xe s₁
  have caught : Takes (X.tr (X.pn ++ pins) catch_) (wVal X.K c i ts Wout D) := fun u s' xx => by
    obtain ⟨a, B, sI, pins', σ', H', cls, d, rfl, J', nb, up, sky, na, os, ag, b, hb1, yes, no⟩ := xx
    have J : Inv X pins σ' H' sI := J'.ofTry ok
    show wpAny (model X.prog X.w) X.A (noteFrame (.ref a) X.env) _ _ _
    refine Sky.land Zc.steady fr hf (by rw [← hs]; exact sky) fun h3 fl3 up3 => ?_
    have J3 : Inv X pins σ' H' { s' with heap := h3 } := J.landed nb fl3.1 (up.trans up3) os ag
    obtain ⟨oe3, vs3, he3, hz3, hd3⟩ := fl3.there
    -- the error is no frame of ours, and new
    have nfr : a ∉ frs (X.env :: X.outer) := fun hm => by
      obtain ⟨_, o', e', hnf⟩ := fl3.2.2.1.mem hm
      rw [he3] at e'; cases e'
      exact hnf _ hd3
    have nL : a ≠ X.env.locals := fun z => nfr (List.mem_filterMap.mpr ⟨X.env, List.mem_cons_self, by rw [hf, z]⟩)
    have nF : a ∉ X.fs := fun hm => by
      obtain ⟨e, he, q⟩ := List.mem_filterMap.mp hm
      exact nfr (List.mem_filterMap.mpr ⟨e, List.mem_cons_of_mem _ he, q⟩)
    have nI : sI.heap.get? a = none := by
      cases q : sI.heap.get? a with
      | none => rfl
      | some o =>
        have z := nb a o q (by show a ∉ frs X.stack; rw [hs]; exact nfr)
        rw [fl3.2.1] at z; cases z
    have n0 : X.s_0.heap.get? a = none := by
      cases q : X.s_0.heap.get? a with
      | none => rfl
      | some o =>
        obtain ⟨o', z⟩ := J.base.there a o q (by rw [hx]; exact List.not_mem_nil)
        rw [nI] at z; cases z
    have nC : ∀ y k, X.env.cells.lookup y = some k → k ≠ a := fun y k e z => by
      obtain ⟨v, hv⟩ := J.cell y k e
      obtain ⟨o, ho, _⟩ := hv
      rw [z, nI] at ho; cases ho
    have nP : ∀ p ∈ X.pn ++ pins, p.1 ≠ a := fun p hp z => by
      have e := (J.pin p hp).1
      rw [z, nI] at e; cases e
    have S3 := J3.suite he3 hd3 na nL nF
    refine wpAny_handleBy_cons (codeAny_handlers_test ?_) (by intro q; cases q)
    have LT : PySem.W.Looks (model X.prog X.w) h3 (typeOf (.ref a)) cls := fun A Q E s k q => wpAny_typeOf_ref (k _ _ he3) (by rw [hz3.1]; exact q)
    have LM := PySem.W.exm_one (M := model X.prog X.w) (J3.kIn) LT hb1
    have test : ∀ {Q : Value → Shared → Prop} {E : Value → Shared → Prop}, Q c { s' with heap := h3 } → wpAny (model X.prog X.w) (X.A.mark (some (.ref a))) (eval (.Name x np) X.env) Q E { s' with heap := h3 } := fun {Q E} q => by
      obtain ⟨g1, g2, g3 | ⟨g3, g4, g5⟩⟩ := hc
      · exact ld_glob (X := X.suite a ((a, oe3) :: (X.pn ++ pins))) S3 g1 g3 q g2
      · exact ld_blt (X := X.suite a ((a, oe3) :: (X.pn ++ pins))) S3 g1 g3 g4 q g5 g2
    refine test (LM.here ?_)
    cases b with
    | true =>
      refine codeAny_handlers_suite_as (HandSPX.lands_againZ fl3 fun h4 fl4 up4 => ?_)
      have J4 : Inv X pins σ' H' { s' with heap := h4 } := J.landed nb fl4.1 ((up.trans up3).trans up4) os ag
      obtain ⟨oe4, vs4, he4, hz4, hd4⟩ := fl4.there
      refine store_ok (X := X.suite a ((a, oe4) :: (X.pn ++ pins))) (v := .ref a) (J4.suite he4 hd4 na nL nF) hN hi (.inl hln) rfl (fun s5 S5 => ?_) (.inr hln)
      refine wpAny_mono ((hsu a oe4 cls d (X.pn ++ pins) hz4 ⟨_, hd4⟩).run [] s5 _ H' _ S5 (yes rfl a na)) (fun f s6 hsp => ?_) (fun _ _ z => False.elim z)
      cases f with
      | next =>
        obtain ⟨σ6, H6, S6, q6⟩ := hsp
        obtain ⟨p1, p2, _⟩ := S6.pin (a, oe4) (List.mem_append_left _ List.mem_cons_self)
        have T6 := track (S6.unsuite ok) n0 p2 nL nC nP (exV_ok p1 hz4 hd4)
        exact gone_ok T6 hN hi hln fun s7 J7 => ⟨_, _, J7, q6⟩
      | brk => obtain ⟨σ6, H6, S6, q6⟩ := hsp; exact q6.elim
      | cont => obtain ⟨σ6, H6, S6, q6⟩ := hsp; exact q6.elim
      | ret u => obtain ⟨v6, σ6, H6, S6, r6, q6⟩ := hsp; exact q6.elim
    | false =>
      show wpAny _ X.A (handleBy (.ref a) X.env []) _ _ _
      refine wpAny_handleBy_nil ?_
      obtain ⟨k1, k2, k3, oe, vs, T, oT, ts', he, hz, hd, h1, hr⟩ := id fl3
      unfold PySem.passOn
      refine wpAny_bind (wpAny_field he hd h1 ?_)
      rw [if_neg (show ¬ ((Value.ref T == Value.none) = true) from by simp)]
      have fin : wpAny (model X.prog X.w) X.A (setFlight (.ref a) X.env.frame) (fun _ s4 => wpAny (model X.prog X.w) X.A (throw (.ref a) : Sem Flow) (SP X pins D) X.xe s4) X.xe { s' with heap := h3 } := by
        rw [hf]
        refine HandSPX.setFlight_upZ fl3 fun h4 hh4 up4 => wpAny_throw (tk _ _ ?_)
        exact ⟨a, B, sI, pins, σ', H', cls, d, rfl, J, nb, (up.trans up3).trans up4, .inr (.inr (by rw [hs]; exact hh4)), na, os, ag, no rfl⟩
      first
        | exact wpAny_bind (wpAny_pure (wpAny_bind fin))
        | exact wpAny_bind fin
  refine wpAny_Try_except (wpAny_mono ((hb _ (X.pn ++ pins) catch_ caught PassesOwn.looking).run [] s σ H D (I.toTry _) h) (fun f s1 hsp => ?_) fun e s1 he => he)
  cases f with
  | next =>
    obtain ⟨σ', H', J', q⟩ := hsp
    exact wpAny_execs_nil ⟨σ', H', J'.ofTry ok, q⟩
  | brk => obtain ⟨σ', H', J', q⟩ := hsp; exact ⟨σ', H', J'.ofTry ok, q⟩
  | cont => obtain ⟨σ', H', J', q⟩ := hsp; exact ⟨σ', H', J'.ofTry ok, q⟩
  | ret u => obtain ⟨v, σ', H', J', r, q⟩ := hsp; exact ⟨v, σ', H', J'.ofTry ok, r, q⟩
end
/-! ### raising methods and defs, where what is raised is wished for at the slots -/
def tMethS (C : Addr) (m : Str) (sp : Sp) (dvs : List V) (E : L2.St → XK) (ta : TE) (t : TA) : TE := fun σ H Q => ta σ H fun x H1 => ∃ a dx fs, x = .ref a ∧ H1 a = some (.ins C dx fs) ∧ fs.lookup m = none ∧ t σ H1 fun vs H2 => sp (x :: (vs ++ dvs)) H2 Q (E σ)
section
variable {X : Cx} {C f : Addr} {fd : FuncData} {sp : Sp} {ds : List V} {us : List Value} {vs : List V} {ps : List Str} {m : Str} {k : Nat} {pos apos : Pos} {e o : Expr} {es : List Expr} {ta : TE} {t : TA} {E : L2.St → XK} {dd : List Value}
theorem run_at {pins : List (Addr × Obj)} {σ : L2.St} {H : Hp} {s : Shared} {Q : VK} {E : XK} {CX : CXT} (F : FnOk X.prog X.w X.K X.mg X.base CX k f fd ps sp) (hr : Room k X.A) (hb : Binds X.K fd ps dd) (hd : Vals ds dd) (hx : PassesAt CX X σ E) (I : Inv X pins σ H s) (r : Vals vs us) (h : sp (vs ++ ds) H Q E) :
    wpAny (model X.prog X.w) X.A (call (.ref f) us) (EP X pins σ Q) X.xe s := by
  have r2 : Vals (vs ++ ds) (us ++ dd) := r.append hd
  have hl : (us ++ dd).length = ps.length := by rw [← r2.length]; exact F.len _ _ _ _ h
  refine wpAny_call (codeAny_mono (F.run X.A X.stack s H ⟨us, []⟩ (us ++ dd) (vs ++ ds) Q E hr I.env0 (hb s us I.kIn hl) r2 h) fun r s' hq => ?_)
  rcases r with e | fl
  · exact hx pins H s e s' I hq
  · cases fl with
    | ret u => exact I.after hq
    | _ => exact hq.elim
theorem pe_moS {pl : Sem Bool} (D : MOk X.prog X.w X.K X.mg X.base C m k ps ds sp) (c : Cls X.K C) (hr : Room k X.A) (hx : ∀ σ, PassesAt (L2.CX X.prog X.w) X σ (E σ)) (he : PE X o ta) (ha : PA X (e :: es) t)
    (hst : starEach (e :: es) X.env = (false, eval e X.env) :: starEach es X.env := by rfl) (hpl : (backTo pos (starEach es X.env)).any (·.1) = false := by rfl) (ht : eval (.Call (.Attribute o m apos) (e :: es) [] pos) X.env = (do
      let ov ← eval o X.env
      standAt apos.atName
      let (f, first) ← holding [ov] (getMethod ov m pl)
      callWith pos f first (backTo pos (starEach (e :: es) X.env)) (backToKw pos (keywordEach [] X.env))) := by rfl) :
    PE X (.Call (.Attribute o m apos) (e :: es) [] pos) (tMethS C m sp ds E ta t) := by
  obtain ⟨f, fd, us, M, b, d, F⟩ := D.ex
  refine ⟨fun pins s σ H Q I h => ?_⟩
  refine PySem.W.methodCall_KW (pl := pl) (thn (he.run pins s σ H _ I h) fun u s1 ⟨x, H1, I1, rx, a, dx, fs, ex, ea, l, q⟩ => ?_) ht
  subst ex
  obtain rfl : u = Value.ref a := rx
  refine getmeth_ok I1 ea c M l (PySem.W.callWith_K (first := [.ref a]) (h₀ := X.base) I.ok.mod.kin M.kp (thn (ha.run pos pins s1 σ H1 _ I1 q) fun us s2 ⟨vs, H2, I2, r, q2⟩ => ⟨I2.kIn, ?_⟩) hst hpl)
  exact run_at (us := .ref a :: us) (vs := .ref a :: vs) F hr b d (hx σ) I2 (.cons rfl r) q2
theorem pe_moS0 {pl : Sem Bool} (D : MOk X.prog X.w X.K X.mg X.base C m k ps ds sp) (c : Cls X.K C) (hr : Room k X.A) (hx : ∀ σ, PassesAt (L2.CX X.prog X.w) X σ (E σ)) (he : PE X o ta) (ht : eval (.Call (.Attribute o m apos) [] [] pos) X.env = (do
      let ov ← eval o X.env
      standAt apos.atName
      let (f, first) ← holding [ov] (getMethod ov m pl)
      callWith pos f first (backTo pos (starEach [] X.env)) (backToKw pos (keywordEach [] X.env))) := by rfl) : PE X (.Call (.Attribute o m apos) [] [] pos) (tMethS C m sp ds E ta tNil) := by
  obtain ⟨f, fd, us, M, b, d, F⟩ := D.ex
  refine ⟨fun pins s σ H Q I h => ?_⟩
  refine PySem.W.methodCall_KW (pl := pl) (thn (he.run pins s σ H _ I h) fun u s1 ⟨x, H1, I1, rx, a, dx, fs, ex, ea, l, q⟩ => ?_) ht
  subst ex
  obtain rfl : u = Value.ref a := rx
  exact getmeth_ok I1 ea c M l (PySem.W.callWith_K0 (first := [.ref a]) I1.kIn M.kp (run_at (us := [.ref a]) (vs := [.ref a]) F hr b d (hx σ) I1 (.cons rfl .nil) q))
end
/-! ### isinstance of a kept error -/
/-- isinstance(e, c), e a kept error of the class at D -/
def rIsX (K : PySem.W.Frag) : List V → Hp → VK → Prop := fun xs H Q => ∃ (D a : Addr) (c : V) (cv : Value) (b : Bool), xs = [.ref a, c] ∧ H a = some (ExV (.ref D) none a) ∧ ExcC K D ∧ (∀ u, RelV c u → u = cv) ∧ PySem.W.kitOne K (.ref D) cv = some b ∧ Q (.bl b) H
theorem call_isX {X : Cx} : CallR X (.builtin "isinstance") (rIsX X.K) := by
  intro pins s σ H xs us Q I r h
  obtain ⟨D, a, c, cv, b, rfl, ha, C, hcv, e, q⟩ := h
  obtain ⟨u1, u2, rfl, rx, rt⟩ := vals2 r
  obtain rfl : u1 = Value.ref a := rx
  have ec := hcv _ rt
  subst ec
  obtain ⟨⟨oe, vs, hget, hz, hv⟩, _⟩ := I.hok a _ ha
  have J : PySem.W.InstAt s.heap a oe D none := by
    obtain ⟨oc, od, oda, osl⟩ := oe
    obtain ⟨h1, h2⟩ := hz
    dsimp only at h1 h2 hv
    subst h1 h2 hv
    exact ⟨hget, rfl, rfl, trivial⟩
  exact PySem.W.kia_one (PySem.W.handS_kitx_exc C.hg C.hk C.hs C.hd C.ha C.hn C.ht C.hm) I.kIn J e (fun z => nomatch z) fun tk => ⟨.bl b, H, I.kept (t' := tk) fun _ _ z => z, rfl, q⟩
/-! ### xs.count(y), flat values -/
def rCntF (K : PySem.W.Frag) : V → List V → Hp → VK → Prop := fun x xs H Q => ∃ (a : Addr) (ys : List V) (y : V), x = .ref a ∧ xs = [y] ∧ SqL K H a ys ∧ flatV y = true ∧ ys.all flatV = true ∧ Q (.int ((ys.countP fun z => eqV z y : Nat) : Int)) H
theorem count_vals {y : V} : ∀ {ys : List V} {its : List Value}, Vals ys its → ys.all flatV = true → its.countP (eqU y) = ys.countP fun z => eqV z y
  | _, _, .nil, _ => rfl
  | _, _, .cons r t, f => by
    rw [List.all_cons, Bool.and_eq_true] at f
    rw [List.countP_cons, List.countP_cons, count_vals t f.2, eqU_of r f.1]
theorem mt_countF {X : Cx} : MtR X "list.count" (rCntF X.K) := by
  intro pins s σ H x xs v us Q I rx rxs h
  obtain ⟨a, ys, y, rfl, rfl, hs, fy, fys, q⟩ := h
  cases rx
  obtain ⟨uy, rfl, ry⟩ := vals1 rxs
  obtain ⟨its, rv, ⟨⟨cls, dd, data, sl⟩, n, ho, hc, hdn, hd⟩, hlen⟩ := I.list hs
  simp only at hc hd
  subst hc hd
  refine call_meets PySem.F.slot_list_count ⟨_, ho, rfl⟩ PySem.F.entry_list_count (PySem.F.args_list_count_2 _ _) (SeqAt.list_countAt a its.toArray n dd sl uy (eqU y)) ⟨ho, fun u' hu' => mem_eqAt ry fy rv fys u' (by simpa using hu'), ?_⟩
  have ec : its.toArray.toList.countP (eqU y) = ys.countP fun z => eqV z y := count_vals rv fys
  refine ⟨.int ((ys.countP fun z => eqV z y : Nat) : Int), H, I.tok _, ⟨s.toks, ?_⟩, q⟩
  show Value.int ((its.toArray.toList.countP (eqU y) : Nat) : Int) s.toks = _
  rw [ec]
end RX

/-! refusals as the law meets them: which is due; classes of kept errors -/
namespace RY
open PySem PySem.Spec PyProof.Rows L2 Evl HB GX MB HW HM PI MC HJ HG PS MD MX RP RQ RM RL RS RT RX
/-- is the value the number of a cue of the book -/
def inB (B : Bk) (x : V) : Bool := match x with
  | .int n => decide (n ∈ B.map (·.n))
  | _ => false
theorem inB_int (B : Bk) (n : Int) : inB B (.int n) = decide (n ∈ B.map (·.n)) := rfl
theorem inB_yes {B : Bk} {x : V} (h : inB B x = true) : ∃ n, x = .int n ∧ n ∈ B.map (·.n) := by
  cases x with
  | int n => exact ⟨n, rfl, of_decide_eq_true h⟩
  | _ => cases h
/-- which refusal of put is due: 0 none, 1 no cue's number, 2 taken, 3 no fade, 4 too many -/
def putDue (B : Bk) (x u v : V) : Nat := if numIn x 1 999999 = false then 1 else if inB B x = true then 2 else if (numIn u 0 6000 && numIn v 0 6000) = false then 3 else if 100 ≤ B.length then 4 else 0
theorem due_none {B : Bk} {x u v : V} (h : putDue B x u v = 0) : numIn x 1 999999 = true ∧ inB B x = false ∧ numIn u 0 6000 = true ∧ numIn v 0 6000 = true ∧ B.length < 100 := by
  unfold putDue at h
  split at h
  · cases h
  · rename_i h1
    split at h
    · cases h
    · rename_i h2
      split at h
      · cases h
      · rename_i h3
        split at h
        · cases h
        · rename_i h4
          have h3 : (numIn u 0 6000 && numIn v 0 6000) = true := by
            cases q : numIn u 0 6000 && numIn v 0 6000 with
            | true => rfl
            | false => exact absurd q h3
          obtain ⟨a, b⟩ := Bool.and_eq_true_iff.mp h3
          exact ⟨by cases q : numIn x 1 999999 with
            | true => rfl
            | false => exact absurd q h1, by cases q : inB B x with
            | true => exact absurd q h2
            | false => rfl, a, b, by omega⟩
/-- put, whatever is handed in; e: the classes of its refusals -/
def spPutX (K : PySem.W.Frag) (At : AtT) (e : Nat → Addr) : Sp := fun vs H Q E => ∃ p ls B fp x ty u tu v tv b, vs = [.ref p, x, u, v, .bl b] ∧ At H p ls B fp ∧ TyB K H x ty ∧ TyB K H u tu ∧ TyB K H v tv ∧
  (putDue B x u v = 0 → ∀ n up down, x = .int n → u = .int up → v = .int down → Good ls (B ++ [⟨n, up, down, b, []⟩]) → Deed At p ls fp (B ++ [⟨n, up, down, b, []⟩]) H Q) ∧ (putDue B x u v ≠ 0 → RaiseV (e (putDue B x u v)) H E)
def putE (eCue eTaken eTime eMany : Addr) (i : Nat) : Addr := if i = 1 then eCue else if i = 2 then eTaken else if i = 3 then eTime else eMany
theorem good_new {ls : List Str} {B : Bk} (G : Good ls B) {x u v : V} (h : putDue B x u v = 0) {n up down : Int} {b : Bool} (ex : x = .int n) (eu : u = .int up) (ev : v = .int down) : Good ls (B ++ [⟨n, up, down, b, []⟩]) ∧ n ∉ B.map (·.n) := by
  subst ex eu ev
  obtain ⟨h1, h2, h3, h4, h5⟩ := due_none h
  obtain ⟨n', e1, n1, n2⟩ := numIn_yes h1
  obtain ⟨u', e2, u1, u2⟩ := numIn_yes h3
  obtain ⟨d', e3, d1, d2⟩ := numIn_yes h4
  cases e1; cases e2; cases e3
  have no : n ∉ B.map (·.n) := of_decide_eq_false (inB_int B n ▸ h2)
  exact ⟨good_put G no ⟨n1, n2, u1, u2, d1, d2, List.nodup_nil, fun x hx => absurd hx List.not_mem_nil⟩ rfl h5, no⟩
theorem putX_R {K : PySem.W.Frag} {C Cc eCue eTaken eMany eTime : Addr} {tb : Addr → Prop} {full more : Prop} (vs : List V) (H : Hp) (Q : VK) (E : XK) (h : spPutX K (playAt C Cc tb full more) (putE eCue eTaken eTime eMany) vs H Q E) : spPutR K C Cc eCue eTaken eMany eTime vs H Q E := by
  obtain ⟨p, ls, B, fp, x, ty, u, tu, v, tv, b, e, ⟨d, R, raw, sm, G, tabs, efp⟩, ht, hu, hv, q0, q1⟩ := h
  have el := sm.len
  unfold pk at el
  rw [List.length_map] at el
  have gl := G.len
  have hit : inB B x = true → ∃ r, Hit R x r := fun h => by
    obtain ⟨n, rfl, hn⟩ := inB_yes h
    obtain ⟨r, hr, er⟩ := row_n sm hn
    exact ⟨r, hr, by rw [er]⟩
  have miss : inB B x = false → Miss R x := fun h r hr e => by
    rw [e, inB_int] at h
    exact of_decide_eq_false h (by rw [← sm.nums, pk_n]; exact List.mem_map.mpr ⟨r, hr, rfl⟩)
  refine ⟨p, d, R, x, ty, u, tu, v, tv, b, e, raw, by omega, ht, hu, hv, ?_⟩
  cases hx : numIn x 1 999999 with
  | false =>
    have e : putDue B x u v = 1 := by unfold putDue; rw [if_pos hx]
    rw [e] at q1
    exact .inl ⟨rfl, q1 (by decide)⟩
  | true =>
    have e1 : ∀ {a b : Nat}, (if numIn x 1 999999 = false then a else b) = b := fun {a b} => by rw [hx]; rfl
    cases hi : inB B x with
    | true =>
      have e : putDue B x u v = 2 := by unfold putDue; rw [e1, if_pos hi]
      rw [e] at q1
      exact .inr (.inl ⟨rfl, hit hi, q1 (by decide)⟩)
    | false =>
      have e2 : ∀ {a b : Nat}, (if inB B x = true then a else b) = b := fun {a b} => by rw [hi]; rfl
      cases hf : numIn u 0 6000 && numIn v 0 6000 with
      | false =>
        have e : putDue B x u v = 3 := by unfold putDue; rw [e1, e2, if_pos hf]
        rw [e] at q1
        refine .inr (.inr (.inl ⟨rfl, miss hi, ?_, q1 (by decide)⟩))
        cases h1 : numIn u 0 6000 with
        | false => exact .inl rfl
        | true =>
          rw [h1, Bool.true_and] at hf
          exact .inr hf
      | true =>
        obtain ⟨f1, f2⟩ := Bool.and_eq_true_iff.mp hf
        have e3 : ∀ {a b : Nat}, (if (numIn u 0 6000 && numIn v 0 6000) = false then a else b) = b := fun {a b} => by rw [hf]; rfl
        by_cases hl : 100 ≤ B.length
        · have e : putDue B x u v = 4 := by unfold putDue; rw [e1, e2, e3, if_pos hl]
          rw [e] at q1
          exact .inr (.inr (.inr (.inl ⟨rfl, miss hi, f1, f2, by omega, q1 (by decide)⟩)))
        · have e : putDue B x u v = 0 := by unfold putDue; rw [e1, e2, e3, if_neg hl]
          obtain ⟨n, rfl, n1, n2⟩ := numIn_yes hx
          obtain ⟨up, rfl, u1, u2⟩ := numIn_yes f1
          obtain ⟨down, rfl, d1, d2⟩ := numIn_yes f2
          refine .inr (.inr (.inr (.inr ⟨n, up, down, rfl, rfl, rfl, n1, n2, u1, u2, d1, d2, miss hi, by omega, fun H1 r ex n1 n2 er h1 h2 => ?_⟩)))
          have G2 := (good_new (b := b) G e rfl rfl rfl).1
          have no : ∀ y ∈ R, y.c.n ≠ r.c.n := fun y hy z => miss hi y hy (by rw [z, er])
          have raw' := raw.put ex no n1 n2 h1 (by rw [h2, er]; rfl) (by rw [er]; exact List.nodup_nil)
          have mv := mv_put (p := p) (R := R) ex n1 n2 (.dK (pkv (R ++ [r]))) (d := d)
          have sm' : SameB (pk (R ++ [r])) (B ++ [⟨n, up, down, b, []⟩]) := by
            unfold pk
            rw [List.map_append]
            exact sm.app (.cons (by show SameC r.c _; rw [er]; exact .refl _) .nil)
          obtain ⟨a1, a2⟩ := at_deed (full := full) (more := more) raw tabs efp raw' mv sm' G2
          exact q0 e n up down rfl rfl rfl G2 _ _ a1 a2
/-! ### classes -/
/-- what the top has written of the i-th of the classes ys of errors -/
structure KindF (K : PySem.W.Frag) (D : Addr) (i : Nat) (y0 y1 y2 y3 y4 y5 y6 eC : Addr) : Prop where
  c : ExcC K D
  k0 : PySem.W.kitOne K (.ref D) (.ref y0) = some (decide (i = 0))
  k1 : PySem.W.kitOne K (.ref D) (.ref y1) = some (decide (i = 1))
  k2 : PySem.W.kitOne K (.ref D) (.ref y2) = some (decide (i = 2))
  k3 : PySem.W.kitOne K (.ref D) (.ref y3) = some (decide (i = 3))
  k4 : PySem.W.kitOne K (.ref D) (.ref y4) = some (decide (i = 4))
  k5 : PySem.W.kitOne K (.ref D) (.ref y5) = some (decide (i = 5))
  k6 : PySem.W.kitOne K (.ref D) (.ref y6) = some (decide (i = 6))
  v : PySem.W.kitOne K (.ref D) (.type "ValueError") = some true
  x : PySem.W.exmOne K (.ref D) (.ref eC) = some true
def kindWords : List Str := ["cue", "taken", "many", "lamp", "level", "time", "text"]
section
variable {σ : L2.St} {H : Hp} {K : PySem.W.Frag} {te tc : TE} {a D : Addr} {c : V} {cv : Value} {b : Bool}
theorem ev_isX (h : Ev te σ H (.ref a)) (hc : Ev tc σ H c) (ha : H a = some (ExV (.ref D) none a)) (C : ExcC K D) (hcv : ∀ u, RelV c u → u = cv) (k : PySem.W.kitOne K (.ref D) cv = some b) : Ev (tCB (rIsX K) (tCons te (tCons tc tNil))) σ H (.bl b) :=
  ev_cb (ea_cons h (ea_cons hc ea_nil)) fun H1 e _ q => ⟨D, a, c, cv, b, rfl, e _ _ ha, C, hcv, k, q H1 (Ex.refl H1)⟩
theorem ev_countF {l : Addr} {ys : List V} {y : V} {to ty : TE} (ho : Ev to σ H (.ref l)) (hy : Ev ty σ H y) (hl : H l = some (.lst ys)) (fy : flatV y = true) (fs : ys.all flatV = true) : Ev (tBM K "list" (rCntF K) to (tCons ty tNil)) σ H (.int ((ys.countP fun z => eqV z y : Nat) : Int)) := fun H1 e Q q =>
  ho H1 e _ fun H2 e2 => ⟨.inl ⟨rfl, _, .of (e2 _ _ (e _ _ hl))⟩, hy H2 (e.trans e2) _ fun H3 e3 => ⟨l, ys, y, rfl, rfl, .of (e3 _ _ (e2 _ _ (e _ _ hl))), fy, fs, q H3 (e2.trans e3)⟩⟩
theorem ev_indexF {l : Addr} {ys : List V} {y z : V} {j : Nat} {to ty : TE} (ho : Ev to σ H (.ref l)) (hy : Ev ty σ H y) (hl : SqL K H l ys) (fy : flatV y = true) (fs : ys.all flatV = true) (hz : ys[j]? = some z) (ez : eqV z y = true) (no : ∀ (m : Nat) (z' : V), m < j → ys[m]? = some z' → eqV z' y = false) :
    Ev (tBM K "list" (rIndex K) to (tCons ty tNil)) σ H (.int (j : Nat)) := fun H1 e Q q =>
  ho H1 e _ fun H2 e2 => ⟨.inl ⟨rfl, _, ex_l (e.trans e2) hl⟩, hy H2 (e.trans e2) _ fun H3 e3 => ⟨l, ys, y, j, z, rfl, rfl, ex_l ((e.trans e2).trans e3) hl, fy, fs, hz, ez, no, q H3 (e2.trans e3)⟩⟩
end
end RY

/-! what is asked of a play with anything: which refusal is due -/
namespace RZ
open PySem PySem.Spec PyProof.Rows L2 Evl HB GX MB HW HM PI MC HJ HG PS MD MX RP RQ RM RL RS RT RX RY
/-- does the cue tell of that lamp -/
def tellsB (B : Bk) (x y : V) : Bool := match x, y with
  | .int n, .str l => (cueAt B n).elim false fun c => (wlook c.ws l).isSome
  | _, _ => false
/-- 0 tell, 1 only, 2 level, 3 untell, 4 cut, 5 lift, 6 look, 7 cue; 0 none, 1 no cue, 2 no lamp, 3 no level -/
def askDue (w : Nat) (B : Bk) (x y u : V) : Nat := if inB B x = false then 1 else if 5 < w then 0 else if w < 4 ∧ lampIs y = false then 2 else if w = 3 ∧ tellsB B x y = false then 2 else if w < 2 ∧ numIn u 0 100 = false then 3 else 0
def askE (eCue eLamp eLevel : Addr) (i : Nat) : Addr := if i = 1 then eCue else if i = 2 then eLamp else eLevel
def AskAt (K : PySem.W.Frag) (At : AtT) (e : Nat → Addr) (w : Nat) (p : Addr) (x y u : V) (H : Hp) (Q : VK) (E : XK) : Prop := ∃ ls B fp tx ty tu, At H p ls B fp ∧ TyB K H x tx ∧ TyB K H y ty ∧ TyB K H u tu ∧ TxtOk y ∧
  (askDue w B x y u ≠ 0 → RaiseV (e (askDue w B x y u)) H E) ∧ (askDue w B x y u = 0 → (w = 2 ∨ 5 < w) ∧ ∀ v H', Ex H H' → Q v H')
def spAsk1 (K : PySem.W.Frag) (At : AtT) (e : Nat → Addr) (w : Nat) : Sp := fun vs H Q E => ∃ p x y u, vs = [.ref p, x] ∧ AskAt K At e w p x y u H Q E
def spAsk2 (K : PySem.W.Frag) (At : AtT) (e : Nat → Addr) (w : Nat) : Sp := fun vs H Q E => ∃ p x y u, vs = [.ref p, x, y] ∧ AskAt K At e w p x y u H Q E
def spAsk3 (K : PySem.W.Frag) (At : AtT) (e : Nat → Addr) (w : Nat) : Sp := fun vs H Q E => ∃ p x y u, vs = [.ref p, x, y, u] ∧ AskAt K At e w p x y u H Q E
section
variable {K : PySem.W.Frag} {C Cc Pt eCue eLamp eLevel : Addr} {tb : Addr → Prop} {full more : Prop} {R : List PRow} {B : Bk} {x : V} {w : Nat} {y u : V}
theorem in_hit (sm : SameB (pk R) B) (h : inB B x = true) : ∃ r, Hit R x r := by
  obtain ⟨n, rfl, hn⟩ := inB_yes h
  obtain ⟨r, hr, er⟩ := row_n sm hn
  exact ⟨r, hr, by rw [er]⟩
theorem in_miss (sm : SameB (pk R) B) (h : inB B x = false) : Miss R x := fun r hr e => by
  rw [e, inB_int] at h
  exact of_decide_eq_false h (by rw [← sm.nums, pk_n]; exact List.mem_map.mpr ⟨r, hr, rfl⟩)
theorem due_cue (h : inB B x = false) : askDue w B x y u = 1 := by unfold askDue; rw [if_pos h]
theorem due_in (h : inB B x = true) : askDue w B x y u = if 5 < w then 0 else if w < 4 ∧ lampIs y = false then 2 else if w = 3 ∧ tellsB B x y = false then 2 else if w < 2 ∧ numIn u 0 100 = false then 3 else 0 := by
  unfold askDue
  rw [if_neg (by rw [h]; decide)]
theorem b_false {b : Bool} (h : ¬ b = false) : b = true := by cases b <;> simp_all
theorem b_true {b : Bool} (h : ¬ b = true) : b = false := by cases b <;> simp_all
/-- tell, only: refused -/
theorem ask_tell (hw : w < 2) {H : Hp} {Q : VK} {E : XK} {p : Addr} {x y u : V} (h : AskAt K (playAt C Cc tb full more) (askE eCue eLamp eLevel) w p x y u H Q E) : ∃ d R ls ty tz tw, Raw C Cc H p d R ∧ Bound R ls ∧ TyB K H x ty ∧ TyB K H y tz ∧ TxtOk y ∧ TyB K H u tw ∧ (∀ b, tb b → TabX H b) ∧ (∀ l ∈ ls, LampOk l) ∧ Lv R ∧
    ((Miss R x ∧ RaiseV eCue H E) ∨ ((∃ r, Hit R x r) ∧ lampIs y = false ∧ RaiseV eLamp H E) ∨ ((∃ r, Hit R x r) ∧ lampIs y = true ∧ numIn u 0 100 = false ∧ RaiseV eLevel H E)) := by
  obtain ⟨ls, B, fp, tx, ty, tu, ⟨d, R, raw, sm, G, tabs, efp⟩, hx, hy, hu, ht, q1, q0⟩ := h
  refine ⟨d, R, ls, tx, ty, tu, raw, bound_of raw sm G, hx, hy, ht, hu, tabs, G.ok, lv_of raw sm G, ?_⟩
  by_cases hi : inB B x = false
  · rw [due_cue hi] at q1
    exact .inl ⟨in_miss sm hi, q1 (by decide)⟩
  have hi := b_false hi
  have hit := in_hit sm hi
  rw [due_in hi, if_neg (by omega)] at q1 q0
  by_cases hl : lampIs y = false
  · rw [if_pos ⟨by omega, hl⟩] at q1
    exact .inr (.inl ⟨hit, hl, q1 (by decide)⟩)
  rw [if_neg (fun z => hl z.2), if_neg (fun z => by omega)] at q1 q0
  by_cases hn : numIn u 0 100 = false
  · rw [if_pos ⟨hw, hn⟩] at q1
    exact .inr (.inr ⟨hit, b_false hl, hn, q1 (by decide)⟩)
  · rw [if_neg (fun z => hn z.2)] at q0
    have := (q0 rfl).1
    omega
theorem tell_R (htb : tb Pt) (vs : List V) (H : Hp) (Q : VK) (E : XK) (h : spAsk3 K (playAt C Cc tb full more) (askE eCue eLamp eLevel) 0 vs H Q E) : spTellR K Pt C Cc eCue eLamp eLevel vs H Q E := by
  obtain ⟨p, x, y, u, e, h⟩ := h
  obtain ⟨d, R, ls, ty, tz, tw, raw, bd, hx, hy, ht, hu, tabs, lok, lv, k⟩ := ask_tell (by decide) h
  exact ⟨p, d, R, ls, x, ty, y, tz, u, tw, e, raw, bd, hx, hy, ht, hu, tabs _ htb, .inr k⟩
theorem only_R (htb : tb Pt) (vs : List V) (H : Hp) (Q : VK) (E : XK) (h : spAsk3 K (playAt C Cc tb full more) (askE eCue eLamp eLevel) 1 vs H Q E) : spOnlyR K Pt C Cc eCue eLamp eLevel vs H Q E := by
  obtain ⟨p, x, y, u, e, h⟩ := h
  obtain ⟨d, R, ls, ty, tz, tw, raw, bd, hx, hy, ht, hu, tabs, lok, lv, k⟩ := ask_tell (by decide) h
  exact ⟨p, d, R, ls, x, ty, y, tz, u, tw, e, raw, bd, hx, hy, ht, hu, tabs _ htb, lok, lv, .inr k⟩
theorem level_R (htb : tb Pt) (vs : List V) (H : Hp) (Q : VK) (E : XK) (h : spAsk2 K (playAt C Cc tb full more) (askE eCue eLamp eLevel) 2 vs H Q E) : spLevelR K Pt C Cc eCue eLamp vs H Q E := by
  obtain ⟨p, x, y, u, e, ls, B, fp, tx, ty, tu, ⟨d, R, raw, sm, G, tabs, efp⟩, hx, hy, hu, ht, q1, q0⟩ := h
  refine ⟨p, d, R, ls, x, tx, y, ty, e, raw, bound_of raw sm G, hx, hy, ht, tabs _ htb, ?_⟩
  by_cases hi : inB B x = false
  · rw [due_cue hi] at q1
    exact .inr (.inl ⟨in_miss sm hi, q1 (by decide)⟩)
  have hi := b_false hi
  obtain ⟨r, hit⟩ := in_hit sm hi
  rw [due_in hi, if_neg (by decide)] at q1 q0
  by_cases hl : lampIs y = false
  · rw [if_pos ⟨by decide, hl⟩] at q1
    exact .inr (.inr ⟨⟨r, hit⟩, hl, q1 (by decide)⟩)
  rw [if_neg (fun z => hl z.2), if_neg (fun z => by omega), if_neg (fun z => by omega)] at q0
  obtain ⟨l, rfl, hl2⟩ := lamp_yes (b_false hl)
  exact .inl ⟨r, l, hit, rfl, hl2, fun H' ex => (q0 rfl).2 _ _ ex⟩
theorem untell_R (htb : tb Pt) (vs : List V) (H : Hp) (Q : VK) (E : XK) (h : spAsk2 K (playAt C Cc tb full more) (askE eCue eLamp eLevel) 3 vs H Q E) : spUntellR K Pt C Cc eCue eLamp vs H Q E := by
  obtain ⟨p, x, y, u, e, ls, B, fp, tx, ty, tu, ⟨d, R, raw, sm, G, tabs, efp⟩, hx, hy, hu, ht, q1, q0⟩ := h
  refine ⟨p, d, R, ls, x, tx, y, ty, e, raw, bound_of raw sm G, hx, hy, ht, tabs _ htb, .inr ?_⟩
  by_cases hi : inB B x = false
  · rw [due_cue hi] at q1
    exact .inl ⟨in_miss sm hi, q1 (by decide)⟩
  have hi := b_false hi
  rw [due_in hi, if_neg (by decide)] at q1 q0
  obtain ⟨n, rfl, hn⟩ := inB_yes hi
  obtain ⟨c, hcB, ec⟩ := List.mem_map.mp hn
  have hc := cueAt_of G.nd hcB
  rw [ec] at hc
  obtain ⟨r, hr, er, k⟩ := row_c raw sm G hc
  have hit : Hit R (.int n) r := ⟨hr, by rw [er]⟩
  by_cases hl : lampIs y = false
  · rw [if_pos ⟨by decide, hl⟩] at q1
    refine .inr ⟨⟨r, hit, fun l ey lok => ?_⟩, q1 (by decide)⟩
    rw [ey, lamp_of lok] at hl
    cases hl
  rw [if_neg (fun z => hl z.2)] at q1 q0
  by_cases ht2 : tellsB B (.int n) y = false
  · rw [if_pos ⟨rfl, ht2⟩] at q1
    refine .inr ⟨⟨r, hit, fun l ey lok => ?_⟩, q1 (by decide)⟩
    subst ey
    have : (cueAt B n).elim false (fun c => (wlook c.ws l).isSome) = false := ht2
    rw [hc] at this
    rw [k.ws]
    exact Option.isSome_eq_false_iff.mp this |> Option.isNone_iff_eq_none.mp
  · rw [if_neg (fun z => ht2 z.2), if_neg (fun z => by omega)] at q0
    have := (q0 rfl).1
    omega
theorem cut_R (vs : List V) (H : Hp) (Q : VK) (E : XK) (h : spAsk1 K (playAt C Cc tb full more) (askE eCue eLamp eLevel) 4 vs H Q E) : spCutR K C Cc eCue vs H Q E := by
  obtain ⟨p, x, y, u, e, ls, B, fp, tx, ty, tu, ⟨d, R, raw, sm, G, tabs, efp⟩, hx, hy, hu, ht, q1, q0⟩ := h
  refine ⟨p, d, R, x, tx, e, raw, (bound_of raw sm G).2.2.2, hx, .inr ?_⟩
  by_cases hi : inB B x = false
  · rw [due_cue hi] at q1
    exact ⟨in_miss sm hi, q1 (by decide)⟩
  rw [due_in (b_false hi), if_neg (by decide), if_neg (fun z => by omega), if_neg (fun z => by omega), if_neg (fun z => by omega)] at q0
  have := (q0 rfl).1
  omega
theorem lift_R (htb : tb Pt) (vs : List V) (H : Hp) (Q : VK) (E : XK) (h : spAsk1 K (playAt C Cc tb full more) (askE eCue eLamp eLevel) 5 vs H Q E) : spLiftR K Pt C Cc eCue vs H Q E := by
  obtain ⟨p, x, y, u, e, ls, B, fp, tx, ty, tu, ⟨d, R, raw, sm, G, tabs, efp⟩, hx, hy, hu, ht, q1, q0⟩ := h
  refine ⟨p, d, R, ls, x, tx, e, raw, bound_of raw sm G, hx, tabs _ htb, G.ok, lv_of raw sm G, .inr ?_⟩
  by_cases hi : inB B x = false
  · rw [due_cue hi] at q1
    exact ⟨in_miss sm hi, q1 (by decide)⟩
  rw [due_in (b_false hi), if_neg (by decide), if_neg (fun z => by omega), if_neg (fun z => by omega), if_neg (fun z => by omega)] at q0
  have := (q0 rfl).1
  omega
theorem look_R (vs : List V) (H : Hp) (Q : VK) (E : XK) (h : spAsk1 K (playAt C Cc tb full more) (askE eCue eLamp eLevel) 6 vs H Q E) : spLookR K C Cc eCue vs H Q E := by
  obtain ⟨p, x, y, u, e, ls, B, fp, tx, ty, tu, ⟨d, R, raw, sm, G, tabs, efp⟩, hx, hy, hu, ht, q1, q0⟩ := h
  refine ⟨p, d, R, ls, x, tx, e, raw, bound_of raw sm G, hx, ?_⟩
  by_cases hi : inB B x = false
  · rw [due_cue hi] at q1
    exact .inr ⟨in_miss sm hi, q1 (by decide)⟩
  obtain ⟨r, hit⟩ := in_hit sm (b_false hi)
  rw [due_in (b_false hi), if_pos (by decide)] at q0
  exact .inl ⟨r, hit, fun ws _ q H2 _ ex _ => (q0 rfl).2 _ _ ex⟩
theorem cue_R (vs : List V) (H : Hp) (Q : VK) (E : XK) (h : spAsk1 K (playAt C Cc tb full more) (askE eCue eLamp eLevel) 7 vs H Q E) : spCueR K C Cc eCue vs H Q E := by
  obtain ⟨p, x, y, u, e, ls, B, fp, tx, ty, tu, ⟨d, R, raw, sm, G, tabs, efp⟩, hx, hy, hu, ht, q1, q0⟩ := h
  refine ⟨p, d, R, ls, x, tx, e, raw, bound_of raw sm G, hx, ?_⟩
  by_cases hi : inB B x = false
  · rw [due_cue hi] at q1
    exact .inr ⟨in_miss sm hi, q1 (by decide)⟩
  obtain ⟨r, hit⟩ := in_hit sm (b_false hi)
  rw [due_in (b_false hi), if_pos (by decide)] at q0
  exact .inl ⟨r, hit, fun t b H2 _ _ _ ex _ _ => (q0 rfl).2 _ _ ex⟩
end
end RZ

/-! defs of the law that let errors through -/
namespace RA
open PySem PySem.Spec PyProof.Rows L2 Evl HB GX MB HW HM PI MC HJ HG PS MD MX RP RQ RM RL RS RT RX RY RZ
structure DnX (P : Program) (w : World) (K : PySem.W.Frag) (mg : Str → Option Value) (base : Heap) (x : Str) (k : Nat) (ps : List Str) (sp : Sp) : Prop where
  ex : ∃ (f : Addr) (fd : FuncData), mg x = some (.ref f) ∧ PySem.W.keepIn K (.ref f) = true ∧ Binds K fd ps [] ∧ FnOk P w K mg base (L2.CX P w) k f fd ps sp
section
variable {P : Program} {w : World} {K : PySem.W.Frag} {mg : Str → Option Value} {base : Heap}
theorem _root_.HB.Df.okX {x qual : Str} {st : Stmt} {N ps : List Str} {k : Nat} {sp : Sp} (D : Df K mg x qual st ps []) (S : FnScope N ps (defScope st)) (len : ∀ vs H Q E, sp vs H Q E → vs.length = ps.length)
    (body : ∀ (f : Addr) (cdv : Value) (A : Around) (outer : List Env) (s : Shared) (H : Hp) (vs : List V) (Q : VK) (E : XK), Room k (A.deeper (envOfC qual (defScope st) s.heap.objs.size f cdv)) → sp vs H Q E →
      ∃ t, PSs (cxOf (L2.CX P w) P w K mg base N qual (defScope st) f cdv A outer s H E) (defBody st) t ∧ t { nx := fun _ H' => Q .non H', rt := Q } (start N vs) H) : DnX P w K mg base x (k + 1) ps sp := by
  obtain ⟨f, fd, m, F, b⟩ := D.ex
  exact ⟨f, fd, m, F.kp, b, F.okX S len (body f)⟩
end
section
variable {X : Cx}
theorem pe_dnS {x : Str} {k : Nat} {ps : List Str} {sp : Sp} {E : L2.St → XK} {e : Expr} {es : List Expr} {t : TA} {p pos : Pos} (D : DnX X.prog X.w X.K X.mg X.base x k ps sp) (hr : Room k X.A) (hg : Gl X x) (hx : ∀ σ, PassesAt (L2.CX X.prog X.w) X σ (E σ)) (ha : PA X (e :: es) t)
    (hdb : (x == ("__debug__" : Str)) = false := by decide) (he : starEach (e :: es) X.env = (false, eval e X.env) :: starEach es X.env := by rfl) (hpl : (backTo pos (starEach es X.env)).any (·.1) = false := by rfl) :
    PE X (.Call (.Name x p) (e :: es) [] pos) (tCallS sp E t) := by
  obtain ⟨f, fd, m, kp, b, F⟩ := D.ex
  exact pe_callS F hr hg m kp b hx ha hdb he hpl
end
/-- all that is asked of a play, with anything -/
structure AskX (P : Program) (w : World) (K : PySem.W.Frag) (mg : Str → Option Value) (base : Heap) (C : Addr) (At : AtT) (e : Nat → Addr) : Prop where
  tell : MOk P w K mg base C "tell" 4 ["self", "number", "lamp", "level"] [] (spAsk3 K At e 0)
  only : MOk P w K mg base C "only" 7 ["self", "number", "lamp", "level"] [] (spAsk3 K At e 1)
  level : MOk P w K mg base C "level" 5 ["self", "number", "lamp"] [] (spAsk2 K At e 2)
  untell : MOk P w K mg base C "untell" 4 ["self", "number", "lamp"] [] (spAsk2 K At e 3)
  cut : MOk P w K mg base C "cut" 4 ["self", "number"] [] (spAsk1 K At e 4)
  lift : MOk P w K mg base C "lift" 7 ["self", "number"] [] (spAsk1 K At e 5)
  look : MOk P w K mg base C "look" 5 ["self", "number"] [] (spAsk1 K At e 6)
  cue : MOk P w K mg base C "cue" 4 ["self", "number"] [] (spAsk1 K At e 7)
end RA

/-! words that could go, the least book -/
namespace SP
open PySem PySem.Spec PyProof.Rows L2 MB HW HM PI MC HJ HG PS MD RP RQ RM
/-- the level ahead of the number n -/
def bef (B : Bk) (n : Int) (l : Str) : Int := lvlD ((desc B).filter fun c => decide (c.n < n)) l
/-- the level that a lamp would have at a cue that tells nothing of it -/
def unt (B : Bk) (c : Cu) (l : Str) : Int := if c.fr = true then 0 else bef B c.n l
def spB (B : Bk) (c : Cu) (l : Str) : Bool := decide (wlook c.ws l = some (unt B c l))
def spareC (B : Bk) (c : Cu) : List Str := (sortS (c.ws.map (·.1))).filter (spB B c)
def spareOf (B : Bk) : List (Int × Str) := (asc B).flatMap fun c => (spareC B c).map fun l => (c.n, l)
def leastC (B : Bk) (c : Cu) : Cu := { c with ws := c.ws.filter fun p => !spB B c p.1 }
def leastB (B : Bk) : Bk := B.map (leastC B)
def dropsB (B : Bk) (ps : List (Int × Str)) : Bk := ps.foldl (fun B p => dropW B p.1 p.2) B
theorem wlook_filter (f : Str → Bool) (l : Str) : ∀ ws : List (Str × Int), wlook (ws.filter fun p => f p.1) l = if f l = true then wlook ws l else none
  | [] => by simp [wlook]
  | p :: r => by
    have ih := wlook_filter f l r
    rw [List.filter_cons]
    by_cases e : p.1 = l
    · cases hf : f p.1 with
      | true => rw [if_pos rfl, wlook_pos e, wlook_pos e, if_pos (by rw [← e]; exact hf)]
      | false => rw [if_neg (by decide), ih, if_neg (by rw [← e, hf]; decide), if_neg (by rw [← e, hf]; decide)]
    · rw [wlook_neg e]
      cases hf : f p.1 with
      | true => rw [if_pos rfl, wlook_neg e, ih]
      | false => rw [if_neg (by decide), ih]
theorem wlook_least (B : Bk) (c : Cu) (l : Str) : wlook (leastC B c).ws l = if spB B c l = true then none else wlook c.ws l := by
  show wlook (c.ws.filter fun p => !spB B c p.1) l = _
  rw [wlook_filter (fun l => !spB B c l)]
  cases spB B c l <;> rfl
section
variable {B : Bk} {c : Cu} {l : Str} {n : Int}
theorem desc_at (nd : (B.map (·.n)).Nodup) (hc : c ∈ B) : ∃ pre r, desc B = pre ++ c :: r := List.append_of_mem ((desc_perm B).mem_iff.mpr hc)
theorem filter_lt (nd : (B.map (·.n)).Nodup) {pre r : Bk} (e : desc B = pre ++ c :: r) : (desc B).filter (fun d => decide (d.n < c.n)) = r := by
  have s := desc_strict nd
  rw [e] at s ⊢
  obtain ⟨s1, s2, s3⟩ := List.pairwise_append.mp s
  obtain ⟨s4, s5⟩ := List.pairwise_cons.mp s2
  rw [List.filter_append, List.filter_cons, if_neg (by rw [decide_eq_true_eq]; omega), List.filter_eq_nil_iff.mpr fun a ha => by
    have := s3 a ha c List.mem_cons_self
    rw [decide_eq_true_eq]; omega, List.filter_eq_self.mpr fun a ha => decide_eq_true (s4 a ha)]
  rfl
theorem filter_le (nd : (B.map (·.n)).Nodup) {pre r : Bk} (e : desc B = pre ++ c :: r) : (desc B).filter (fun d => decide (d.n ≤ c.n)) = c :: r := by
  have s := desc_strict nd
  rw [e] at s ⊢
  obtain ⟨s1, s2, s3⟩ := List.pairwise_append.mp s
  obtain ⟨s4, s5⟩ := List.pairwise_cons.mp s2
  rw [List.filter_append, List.filter_cons, if_pos (by rw [decide_eq_true_eq]; omega), List.filter_eq_nil_iff.mpr fun a ha => by
    have := s3 a ha c List.mem_cons_self
    rw [decide_eq_true_eq]; omega, List.filter_eq_self.mpr fun a ha => decide_eq_true (by have := s4 a ha; omega)]
  rfl
/-- the level at a cue: its word, or what it would be untold -/
theorem lvl_at (nd : (B.map (·.n)).Nodup) (hc : c ∈ B) (l : Str) : lvl B c.n l = (wlook c.ws l).getD (unt B c l) := by
  obtain ⟨pre, r, e⟩ := desc_at nd hc
  unfold lvl unt bef
  rw [filter_le nd e, filter_lt nd e]
  show lvlD (c :: r) l = _
  conv => lhs; unfold lvlD
  cases wlook c.ws l with
  | some v => rfl
  | none => rfl
theorem bef_lvl (B : Bk) (n : Int) (l : Str) : bef B (n + 1) l = lvl B n l := by
  unfold bef lvl
  congr 1
  refine List.filter_congr fun c _ => ?_
  exact decide_eq_decide.mpr ⟨fun h => by omega, fun h => by omega⟩
/-- what lies behind counts nothing -/
theorem bef_map {f : Cu → Cu} (nd : (B.map (·.n)).Nodup) (hf : ∀ c, (f c).n = c.n) (hs : ∀ c, c.n < n → f c = c) (l : Str) : bef (B.map f) n l = bef B n l := by
  unfold bef
  rw [desc_map nd hf, List.filter_map]
  have e : ((fun c : Cu => decide (c.n < n)) ∘ f) = fun c => decide (c.n < n) := funext fun c => by
    show decide ((f c).n < n) = _
    rw [hf]
  rw [e]
  congr 1
  conv => rhs; rw [← List.map_id ((desc B).filter fun c => decide (c.n < n))]
  refine List.map_congr_left fun c hc => ?_
  exact hs c (of_decide_eq_true (List.mem_filter.mp hc).2)
/-- the law's way: the word left out -/
theorem untold (nd : (B.map (·.n)).Nodup) (hc : c ∈ B) (l : Str) : lvl (dropW B c.n l) c.n l = unt B c l := by
  have hf : ∀ d : Cu, (if d.n = c.n then { d with ws := wdrop d.ws l } else d).n = d.n := fun d => by split <;> rfl
  have nd2 : ((dropW B c.n l).map (·.n)).Nodup := by
    unfold dropW modB
    rw [List.map_map, show ((fun c : Cu => c.n) ∘ fun d : Cu => if d.n = c.n then { d with ws := wdrop d.ws l } else d) = fun c : Cu => c.n from funext hf]
    exact nd
  have hm : ({ c with ws := wdrop c.ws l } : Cu) ∈ dropW B c.n l := List.mem_map.mpr ⟨c, hc, if_pos rfl⟩
  have h := lvl_at nd2 hm l
  have h : lvl (dropW B c.n l) c.n l = (wlook (wdrop c.ws l) l).getD (unt (dropW B c.n l) { c with ws := wdrop c.ws l } l) := h
  rw [h, wlook_drop, if_pos rfl]
  show unt _ _ l = _
  unfold unt
  show (if c.fr = true then 0 else bef (dropW B c.n l) c.n l) = _
  rw [show bef (dropW B c.n l) c.n l = bef B c.n l from bef_map nd hf (fun d hd => if_neg (by omega)) l]
theorem leastC_n (B : Bk) (c : Cu) : (leastC B c).n = c.n := rfl
theorem nd_least (nd : (B.map (·.n)).Nodup) : ((leastB B).map (·.n)).Nodup := by
  unfold leastB
  rw [List.map_map]
  exact nd
theorem least_sfx (nd : (B.map (·.n)).Nodup) (l : Str) : ∀ (ds pre : Bk), desc B = pre ++ ds → lvlD (ds.map (leastC B)) l = lvlD ds l
  | [], _, _ => rfl
  | c :: r, pre, e => by
    have ih := least_sfx nd l r (pre ++ [c]) (by rw [e, List.append_assoc]; rfl)
    have eb : bef B c.n l = lvlD r l := by unfold bef; rw [filter_lt nd e]
    rw [List.map_cons]
    conv => lhs; unfold lvlD
    conv => rhs; unfold lvlD
    rw [wlook_least, ih]
    show (match (if spB B c l = true then none else wlook c.ws l) with | some v => v | none => if c.fr = true then 0 else lvlD r l) = _
    by_cases h : spB B c l = true
    · rw [if_pos h]
      have h := of_decide_eq_true h
      rw [h]
      show (if c.fr = true then 0 else lvlD r l) = unt B c l
      unfold unt
      rw [eb]
    · (rw [if_neg h]) <;> (cases wlook c.ws l <;> rfl)
theorem sfx_lt {n : Int} : ∀ {xs : Bk}, (xs.Pairwise fun a b => b.n < a.n) → ∃ pre, xs = pre ++ xs.filter fun c => decide (c.n < n)
  | [], _ => ⟨[], rfl⟩
  | c :: r, h => by
    obtain ⟨h1, h2⟩ := List.pairwise_cons.mp h
    by_cases e : c.n < n
    · refine ⟨[], ?_⟩
      rw [List.filter_eq_self.mpr fun a ha => ?_]
      · rfl
      · rcases List.mem_cons.mp ha with rfl | ha
        · exact decide_eq_true e
        · exact decide_eq_true (by have := h1 a ha; omega)
    · obtain ⟨pre, ep⟩ := sfx_lt (n := n) h2
      refine ⟨c :: pre, ?_⟩
      rw [List.filter_cons, if_neg (by rw [decide_eq_true_eq]; exact e), List.cons_append, ← ep]
theorem bef_least (nd : (B.map (·.n)).Nodup) (n : Int) (l : Str) : bef (leastB B) n l = bef B n l := by
  obtain ⟨pre, e⟩ := sfx_lt (n := n) (desc_strict nd)
  have h := least_sfx nd l _ pre e
  unfold bef leastB
  rw [desc_map nd (leastC_n B), List.filter_map]
  exact h
/-- all looks stay -/
theorem lvl_least (nd : (B.map (·.n)).Nodup) (n : Int) (l : Str) : lvl (leastB B) n l = lvl B n l := by rw [← bef_lvl, ← bef_lvl, bef_least nd]
theorem unt_least (nd : (B.map (·.n)).Nodup) (c : Cu) (l : Str) : unt (leastB B) (leastC B c) l = unt B c l := by
  unfold unt
  show (if c.fr = true then 0 else bef (leastB B) c.n l) = _
  rw [bef_least nd]
theorem spB_least (nd : (B.map (·.n)).Nodup) (c : Cu) (l : Str) : spB (leastB B) (leastC B c) l = false := by
  unfold spB
  rw [wlook_least, unt_least nd]
  by_cases h : spB B c l = true
  · rw [if_pos h]
    exact decide_eq_false fun z => by cases z
  · rw [if_neg h]
    exact decide_eq_false fun z => h (decide_eq_true z)
/-- none is spare there -/
theorem spare_least (nd : (B.map (·.n)).Nodup) : spareOf (leastB B) = [] := by
  unfold spareOf
  rw [List.flatMap_eq_nil_iff]
  intro d hd
  obtain ⟨c, hc, rfl⟩ := List.mem_map.mp ((asc_perm _).mem_iff.mp hd)
  unfold spareC
  rw [List.filter_eq_nil_iff.mpr fun l _ => by rw [spB_least nd]; decide]
  rfl
/-- each word there is needed -/
theorem needed (nd : (B.map (·.n)).Nodup) {d : Cu} (hd : d ∈ leastB B) {l : Str} (hw : (wlook d.ws l).isSome = true) : lvl (dropW (leastB B) d.n l) d.n l ≠ lvl (leastB B) d.n l := by
  have nd2 := nd_least nd
  rw [untold nd2 hd, lvl_at nd2 hd]
  obtain ⟨v, hv⟩ := Option.isSome_iff_exists.mp hw
  rw [hv]
  obtain ⟨c, hc, rfl⟩ := List.mem_map.mp hd
  intro z
  have : spB (leastB B) (leastC B c) l = true := decide_eq_true (by rw [hv]; exact congrArg some z.symm)
  rw [spB_least nd] at this
  cases this
end
/-! ### the same book, words in another order -/
theorem keys_same {ws us : List (Str × Int)} (n1 : (ws.map (·.1)).Nodup) (n2 : (us.map (·.1)).Nodup) (h : ∀ l, wlook ws l = wlook us l) : sortS (ws.map (·.1)) = sortS (us.map (·.1)) := by
  have e : sortW ws = sortW us := words_uniq (words_is n1) ⟨(words_is n2).up, fun l v => by rw [(words_is n2).mem, h]⟩
  have k : ∀ xs : List (Str × Int), (sortW xs).map (·.1) = sortS (xs.map (·.1)) := fun xs => by
    unfold sortW
    rw [List.map_map]
    exact List.map_id _
  rw [← k, ← k, e]
theorem SameB.desc_ {A B : Bk} (h : SameB A B) (nd : (B.map (·.n)).Nodup) : SameB (desc A) (desc B) := by
  have ndA : (A.map (·.n)).Nodup := by rw [h.nums]; exact nd
  rw [desc_asc nd, desc_asc ndA]
  exact (h.asc_ nd).rev
theorem SameB.bef {A B : Bk} (h : SameB A B) (nd : (B.map (·.n)).Nodup) (n : Int) (l : Str) : bef A n l = bef B n l := SameB.lvlD l ((SameB.desc_ h nd).filter fun c c' k => by rw [k.n])
theorem SameB.unt {A B : Bk} (h : SameB A B) (nd : (B.map (·.n)).Nodup) {c c' : Cu} (k : SameC c c') (l : Str) : unt A c l = unt B c' l := by
  unfold SP.unt
  rw [k.fr, k.n, SameB.bef h nd]
theorem SameB.spB {A B : Bk} (h : SameB A B) (nd : (B.map (·.n)).Nodup) {c c' : Cu} (k : SameC c c') (l : Str) : spB A c l = spB B c' l := by
  unfold SP.spB
  rw [k.ws, SameB.unt h nd k]
theorem spare_go {A B : Bk} (h : SameB A B) (nd : (B.map (·.n)).Nodup) : ∀ {X Y : Bk}, SameB X Y → (∀ c ∈ X, (c.ws.map (·.1)).Nodup) → (∀ c ∈ Y, (c.ws.map (·.1)).Nodup) → (X.flatMap fun c => (spareC A c).map fun l => (c.n, l)) = Y.flatMap fun c => (spareC B c).map fun l => (c.n, l)
  | _, _, .nil, _, _ => rfl
  | _, _, .cons (c := c) (c' := c') k s, h1, h2 => by
    rw [List.flatMap_cons, List.flatMap_cons, spare_go h nd s (fun d hd => h1 d (List.mem_cons_of_mem _ hd)) fun d hd => h2 d (List.mem_cons_of_mem _ hd), k.n]
    congr 2
    unfold spareC
    rw [keys_same (h1 _ List.mem_cons_self) (h2 _ List.mem_cons_self) k.ws]
    exact List.filter_congr fun l _ => SameB.spB h nd k l
theorem SameB.spare {A B : Bk} (h : SameB A B) (nd : (B.map (·.n)).Nodup) (h1 : ∀ c ∈ A, (c.ws.map (·.1)).Nodup) (h2 : ∀ c ∈ B, (c.ws.map (·.1)).Nodup) : spareOf A = spareOf B :=
  spare_go h nd (h.asc_ nd) (fun c hc => h1 c ((asc_perm A).mem_iff.mp hc)) fun c hc => h2 c ((asc_perm B).mem_iff.mp hc)
theorem least_go {A B : Bk} (h : SameB A B) (nd : (B.map (·.n)).Nodup) : ∀ {X Y : Bk}, SameB X Y → SameB (X.map (leastC A)) (Y.map (leastC B))
  | _, _, .nil => .nil
  | _, _, .cons (c := c) (c' := c') k s => .cons ⟨k.n, k.up, k.down, k.fr, fun l => by rw [wlook_least, wlook_least, SameB.spB h nd k, k.ws]⟩ (least_go h nd s)
theorem SameB.least {A B : Bk} (h : SameB A B) (nd : (B.map (·.n)).Nodup) : SameB (leastB A) (leastB B) := least_go h nd h
theorem SameB.symm : ∀ {A B : Bk}, SameB A B → SameB B A
  | _, _, .nil => .nil
  | _, _, .cons h a => .cons ⟨h.n.symm, h.up.symm, h.down.symm, h.fr.symm, fun l => (h.ws l).symm⟩ (SameB.symm a)
/-! ### the spare ones taken away one by one -/
theorem Lk.drop {φ : Cu → Str → Option Int} {k : Int} {j : Str} : ∀ {A B : Bk}, Lk φ A B → Lk (fun c l => if c.n = k ∧ l = j then none else φ c l) (dropW A k j) B
  | _, _, .nil => .nil
  | _, _, .cons (c := c) (c' := c') a1 a2 a3 a4 a5 h => by
    show Lk _ ((if c'.n = k then { c' with ws := wdrop c'.ws j } else c') :: dropW _ k j) _
    by_cases e : c'.n = k
    · rw [if_pos e]
      refine .cons a1 a2 a3 a4 (fun l => ?_) (Lk.drop h)
      show wlook (wdrop c'.ws j) l = _
      rw [wlook_drop]
      by_cases q : l = j
      · rw [if_pos q, if_pos ⟨a1.symm.trans e, q⟩]
      · rw [if_neg q, if_neg fun z => q z.2, a5]
    · rw [if_neg e]
      refine .cons a1 a2 a3 a4 (fun l => ?_) (Lk.drop h)
      rw [if_neg fun z => e (a1.trans z.1), a5]
theorem drops_lk (B : Bk) : ∀ (qs ps : List (Int × Str)) (A : Bk), Lk (fun c l => if (c.n, l) ∈ ps then none else wlook c.ws l) A B → Lk (fun c l => if (c.n, l) ∈ ps ++ qs then none else wlook c.ws l) (dropsB A qs) B
  | [], ps, A, h => by rw [List.append_nil]; exact h
  | q :: r, ps, A, h => by
    have z := drops_lk B r (ps ++ [q]) (dropW A q.1 q.2) ((Lk.drop (k := q.1) (j := q.2) h).imp fun c hc l => by
      by_cases e : (c.n, l) ∈ ps
      · rw [if_pos e, if_pos (List.mem_append_left _ e)]; split <;> rfl
      · by_cases e2 : c.n = q.1 ∧ l = q.2
        · rw [if_pos e2, if_pos (List.mem_append_right _ (by rw [e2.1, e2.2]; exact List.mem_singleton.mpr rfl))]
        · rw [if_neg e2, if_neg e, if_neg fun w => (List.mem_append.mp w).elim e fun w => e2 (by
            have w := List.mem_singleton.mp w
            exact ⟨congrArg Prod.fst w, congrArg Prod.snd w⟩)])
    rw [List.append_assoc] at z
    exact z
theorem drops_lk0 (B : Bk) (qs : List (Int × Str)) : Lk (fun c l => if (c.n, l) ∈ qs then none else wlook c.ws l) (dropsB B qs) B :=
  drops_lk B qs [] B ((Lk.refl B).imp fun c _ l => by rw [if_neg List.not_mem_nil])
theorem least_lk (A : Bk) : ∀ B : Bk, Lk (fun c l => if spB A c l = true then none else wlook c.ws l) (B.map (leastC A)) B
  | [] => .nil
  | c :: B => .cons rfl rfl rfl rfl (fun l => wlook_least A c l) (least_lk A B)
theorem mem_spare {B : Bk} (nd : (B.map (·.n)).Nodup) {c : Cu} (hc : c ∈ B) {l : Str} : (c.n, l) ∈ spareOf B ↔ spB B c l = true := by
  unfold spareOf
  rw [List.mem_flatMap]
  constructor
  · rintro ⟨d, hd, h⟩
    obtain ⟨k, hk, e⟩ := List.mem_map.mp h
    have e1 : d.n = c.n := congrArg Prod.fst e
    have e2 : k = l := congrArg Prod.snd e
    have := nodup_at nd ((asc_perm B).mem_iff.mp hd) hc e1
    subst this e2
    exact (List.mem_filter.mp hk).2
  · intro h
    have hw := of_decide_eq_true h
    exact ⟨c, (asc_perm B).mem_iff.mpr hc, List.mem_map.mpr ⟨l, List.mem_filter.mpr ⟨(sortS_perm _).mem_iff.mpr (wlook_key hw), h⟩, rfl⟩⟩
theorem drops_least {B : Bk} (nd : (B.map (·.n)).Nodup) : SameB (dropsB B (spareOf B)) (leastB B) :=
  (drops_lk0 B _).same (least_lk B B) fun c hc l => by
    by_cases h : spB B c l = true
    · rw [if_pos ((mem_spare nd hc).mpr h), if_pos h]
    · rw [if_neg fun z => h ((mem_spare nd hc).mp z), if_neg h]
theorem spare_nodup {B : Bk} (nd : (B.map (·.n)).Nodup) (wn : ∀ c ∈ B, (c.ws.map (·.1)).Nodup) : (spareOf B).Nodup := by
  unfold spareOf
  refine List.pairwise_flatMap.mpr ⟨fun c hc => ?_, (asc_strict nd).imp fun {a b} h x hx y hy e => ?_⟩
  · have n1 : (spareC B c).Nodup := ((sortS_perm _).nodup_iff.mpr (wn c ((asc_perm B).mem_iff.mp hc))).sublist List.filter_sublist
    exact List.pairwise_map.mpr (n1.imp fun h e => h (congrArg Prod.snd e))
  · obtain ⟨_, _, rfl⟩ := List.mem_map.mp hx
    obtain ⟨_, _, rfl⟩ := List.mem_map.mp hy
    have : a.n = b.n := congrArg Prod.fst e
    omega
theorem Lk.at_ {φ : Cu → Str → Option Int} {c : Cu} : ∀ {A B : Bk}, Lk φ A B → c ∈ B → ∃ d ∈ A, d.n = c.n ∧ ∀ l, wlook d.ws l = φ c l
  | _, _, .nil, h => absurd h List.not_mem_nil
  | _, _, .cons a1 a2 a3 a4 a5 k, h => by
    rcases List.mem_cons.mp h with rfl | h
    · exact ⟨_, List.mem_cons_self, a1, a5⟩
    · obtain ⟨d, hd, e⟩ := Lk.at_ k h
      exact ⟨d, List.mem_cons_of_mem _ hd, e⟩
theorem drops_nums (qs : List (Int × Str)) : ∀ B : Bk, (dropsB B qs).map (·.n) = B.map (·.n) := by
  induction qs with
  | nil => exact fun B => rfl
  | cons q r ih =>
    intro B
    show (dropsB (dropW B q.1 q.2) r).map (·.n) = _
    rw [ih]
    unfold dropW modB
    rw [List.map_map]
    refine List.map_congr_left fun c _ => ?_
    show (if c.n = q.1 then _ else c).n = c.n
    split <;> rfl
/-- each of them is told when its turn comes -/
theorem drops_told {B : Bk} (nd : (B.map (·.n)).Nodup) (wn : ∀ c ∈ B, (c.ws.map (·.1)).Nodup) {i : Nat} {q : Int × Str} (h : (spareOf B)[i]? = some q) : ∃ c, cueAt (dropsB B ((spareOf B).take i)) q.1 = some c ∧ (wlook c.ws q.2).isSome = true := by
  have hq := List.mem_of_getElem? h
  obtain ⟨c, hc, hl⟩ := List.mem_flatMap.mp (show q ∈ (asc B).flatMap _ from hq)
  have hc := (asc_perm B).mem_iff.mp hc
  obtain ⟨l, hl, rfl⟩ := List.mem_map.mp hl
  have hw := of_decide_eq_true ((mem_spare nd hc).mp hq)
  obtain ⟨d, hd, e1, e2⟩ := Lk.at_ (drops_lk0 B ((spareOf B).take i)) hc
  have no : (c.n, l) ∉ (spareOf B).take i := fun z => by
    have n1 := spare_nodup nd wn
    obtain ⟨hi, hx⟩ := List.getElem?_eq_some_iff.mp h
    obtain ⟨j, hj, hy⟩ := List.getElem_of_mem z
    rw [List.length_take] at hj
    rw [List.getElem_take] at hy
    have := (List.getElem_inj n1).mp (hy.trans hx.symm)
    omega
  refine ⟨d, ?_, by rw [e2, if_neg no, hw]; rfl⟩
  show cueAt _ c.n = _
  rw [← e1]
  exact cueAt_of (by rw [drops_nums]; exact nd) hd
end SP

/-! pairs of a number and a lamp; promises of spare and least -/
namespace SQ
open PySem PySem.Spec PyProof.Rows L2 Evl HB MB HW HI HM PI MC HJ HG PS PT MD MX RP RQ RL RS RT SP
def pairsK (xs : List (Int × Str)) : List (Key × V) := xs.map fun x => (.inl x.1, .str x.2)
/-- a new list of new pairs comes back -/
def RetP (kvs : List (Key × V)) (H : Hp) (Q : VK) : Prop := ∀ p ts H2, H p = none → Ex H H2 → H2 p = some (.lst (ts.map V.ref)) → PrAt H2 ts kvs → (∀ t ∈ ts, H t = none) → Q (.ref p) H2
def spSpareR (C Cc : Addr) : Sp := fun vs H Q _ => ∃ p d R ls, vs = [.ref p] ∧ Raw C Cc H p d R ∧ Bound R ls ∧ RetP (pairsK (spareOf (pk R))) H Q
def spSpare (At : AtT) : Sp := fun vs H Q _ => ∃ p ls B fp, vs = [.ref p] ∧ At H p ls B fp ∧ RetP (pairsK (spareOf B)) H Q
/-- a new play -/
def spLeast (At : AtT) : Sp := fun vs H Q _ => ∃ p ls B fp, vs = [.ref p] ∧ At H p ls B fp ∧ ∀ x fp' H2, At H2 x ls (leastB (asc B)) fp' → (∀ b, fp' b → H b = none) → Ex H H2 → Q (.ref x) H2
/-- the same play, words in another order -/
def Alike (At : AtT) : Prop := ∀ {H p ls B B' fp}, At H p ls B fp → SameB B B' → Good ls B' → At H p ls B' fp
theorem alike_play {C Cc : Addr} {tb : Addr → Prop} {full more : Prop} : Alike (playAt C Cc tb full more) := fun {H p ls B B' fp} ⟨d, R, raw, sm, G, rest⟩ s g => ⟨d, R, raw, sm.trans s, g, rest⟩
theorem good_same {ls : List Str} {A B : Bk} (s : SameB A B) (g : Good ls B) (wn : ∀ c ∈ A, (c.ws.map (·.1)).Nodup) : Good ls A := by
  refine ⟨by rw [s.nums]; exact g.nd, by rw [s.len]; exact g.len, fun c hc => ?_, fun c hc p hp => ?_, g.ok, g.few⟩
  · obtain ⟨c', hc', k⟩ := s.at_ hc
    have q := g.cue c' hc'
    refine ⟨by rw [k.n]; exact q.n1, by rw [k.n]; exact q.n2, by rw [k.up]; exact q.u1, by rw [k.up]; exact q.u2, by rw [k.down]; exact q.d1, by rw [k.down]; exact q.d2, wn c hc, fun p hp => ?_⟩
    have w := wlook_of (wn c hc) hp
    rw [k.ws] at w
    exact q.lv _ (wlook_mem w)
  · obtain ⟨c', hc', k⟩ := s.at_ hc
    have w := wlook_of (wn c hc) hp
    rw [k.ws] at w
    exact g.lam c' hc' _ (wlook_mem w)
theorem good_least {ls : List Str} {B : Bk} (g : Good ls B) : Good ls (leastB B) := by
  refine ⟨nd_least g.nd, by unfold leastB; rw [List.length_map]; exact g.len, fun c hc => ?_, fun c hc p hp => ?_, g.ok, g.few⟩
  · obtain ⟨c, hc0, rfl⟩ := List.mem_map.mp hc
    have q := g.cue c hc0
    exact ⟨q.n1, q.n2, q.u1, q.u2, q.d1, q.d2, q.nd.sublist (List.filter_sublist.map _), fun p hp => q.lv p (List.mem_filter.mp hp).1⟩
  · obtain ⟨c, hc0, rfl⟩ := List.mem_map.mp hc
    exact g.lam c hc0 p (List.mem_filter.mp hp).1
theorem good_wn {ls : List Str} {B : Bk} (g : Good ls B) : ∀ c ∈ B, (c.ws.map (·.1)).Nodup := fun c hc => (g.cue c hc).nd
/-! ### the level ahead, going through the cues -/
theorem bef_take {B : Bk} (nd : (B.map (·.n)).Nodup) {i : Nat} {c : Cu} (h : (asc B)[i]? = some c) (l : Str) : bef B c.n l = lvlD ((asc B).take i).reverse l := by
  obtain ⟨hi, hx⟩ := List.getElem?_eq_some_iff.mp h
  have e : desc B = ((asc B).drop (i + 1)).reverse ++ c :: ((asc B).take i).reverse := by
    rw [desc_asc nd]
    conv => lhs; rw [← List.take_append_drop i (asc B), List.drop_eq_getElem_cons hi, hx]
    rw [List.reverse_append, List.reverse_cons, List.append_assoc]
    rfl
  unfold bef
  rw [filter_lt nd e]
theorem take_filter {α : Type} {f : α → Bool} {xs : List α} {j : Nat} {x : α} (h : xs[j]? = some x) : (xs.take (j + 1)).filter f = (xs.take j).filter f ++ if f x = true then [x] else [] := by
  rw [List.take_add_one, h, List.filter_append]
  congr 1
  show List.filter f [x] = _
  rw [List.filter_cons]
  rfl
/-! ### lists of pairs -/
section
variable {σ : L2.St} {H H' : Hp} {K : PySem.W.Frag} {x y z w v : V} {ta tb tc te tl td : TE} {t : TT}
theorem pairs_dp : ∀ {ts : List Addr} {xs : List (Int × Str)}, PrAt H ts (pairsK xs) → DpAll K H (ts.map V.ref) (xs.map fun x => PyData.tuple [.int x.1, .str x.2])
  | _, [], .nil => .nil
  | _, x :: r, .cons h k => .cons (.tup (.of h) (.cons (.int _) (.cons (.str _) .nil))) (pairs_dp k)
def pD (xs : List (Int × Str)) : PyData := .list (xs.map fun x => PyData.tuple [.int x.1, .str x.2])
theorem pD_shaped (xs : List (Int × Str)) (h : ∀ x ∈ xs, PyData.strOk x.2 = true) : SeqAt.shaped (pD xs) = true :=
  shaped_list _ _ (fun a ha => by
    rw [PyData.canLay0, PyData.canLayAll0, PyData.canLay0, PyData.canLayAll0, PyData.canLay0, PyData.canLayAll0, h a ha]
    rfl) fun a _ => by
    rw [PyData.depth, PyData.depthAll, PyData.depth, PyData.depthAll, PyData.depth, PyData.depthAll]
    decide
theorem pD_can (xs : List (Int × Str)) (h : ∀ x ∈ xs, PyData.strOk x.2 = true) : (pD xs).canLay0 = true := by
  unfold pD
  rw [PyData.canLay0]
  refine canLay_all _ _ fun a ha => ?_
  rw [PyData.canLay0, PyData.canLayAll0, PyData.canLay0, PyData.canLayAll0, PyData.canLay0, PyData.canLayAll0, h a ha]
  rfl
theorem pD_dp {p : Addr} {ts : List Addr} {xs : List (Int × Str)} (h : H p = some (.lst (ts.map V.ref))) (k : PrAt H ts (pairsK xs)) : Dp K H (.ref p) (pD xs) := .lst (.of h) (pairs_dp k)
theorem pr_ex {ts : List Addr} {kvs : List (Key × V)} (k : PrAt H ts kvs) (e : Ex H H') : PrAt H' ts kvs := prAt_keep k fun t _ u hu => e t u hu
theorem pr_upd {ts : List Addr} {kvs : List (Key × V)} {a : Addr} {u : HO} (k : PrAt H ts kvs) (n : a ∉ ts) : PrAt (upd H a u) ts kvs := prAt_keep k fun t ht u hu => by
  rw [upd_ne fun z => n (by rw [← z]; exact ht)]
  exact hu
theorem pr_at : ∀ {ts : List Addr} {kvs : List (Key × V)}, PrAt H ts kvs → ∀ {i : Nat} {q : Key × V}, kvs[i]? = some q → ∃ t, ts[i]? = some t ∧ H t = some (.tup [kV q.1, q.2])
  | _, _, .nil, i, q, h => by cases i <;> cases h
  | _, _, .cons h r, 0, q, e => by cases e; exact ⟨_, rfl, h⟩
  | _, _, .cons h r, i + 1, q, e => by
    obtain ⟨t, h1, h2⟩ := pr_at r (i := i) (q := q) (by rw [List.getElem?_cons_succ] at e; exact e)
    exact ⟨t, by rw [List.getElem?_cons_succ]; exact h1, h2⟩
theorem pr_len {ts : List Addr} {xs : List (Int × Str)} (k : PrAt H ts (pairsK xs)) : ts.length = xs.length := by
  have := prAt_len k
  unfold pairsK at this
  rw [List.length_map] at this
  exact this
theorem pairs_snoc {ts : List Addr} {xs : List (Int × Str)} {n : Int} {l : Str} {T : Addr} (k : PrAt H ts (pairsK xs)) (h : H T = some (.tup [.int n, .str l])) : PrAt H (ts ++ [T]) (pairsK (xs ++ [(n, l)])) := by
  unfold pairsK
  rw [List.map_append]
  exact prAt_snoc k h
theorem pr_notin {a : Addr} {ys : List V} : ∀ {ts : List Addr} {kvs : List (Key × V)}, PrAt H ts kvs → H a = some (.lst ys) → a ∉ ts
  | _, _, .nil, _ => List.not_mem_nil
  | _, _, .cons h r, k => fun z => by
    rcases List.mem_cons.mp z with rfl | z
    · rw [k] at h; cases h
    · exact pr_notin r k z
theorem get_int (ws : List (Str × Int)) (l : Str) : (valV (wkv ws) (.inr l)).getD (.int 0) = .int ((wlook ws l).getD 0) := by
  rw [val_wkv]
  cases wlook ws l <;> rfl
theorem flat_spare (B : Bk) : ∀ X : Bk, (∀ c ∈ X, c.ws.length ≤ 64) → (X.flatMap fun c => (spareC B c).map fun l => (c.n, l)).length ≤ X.length * 64
  | [], _ => by simp
  | c :: r, h => by
    rw [List.flatMap_cons, List.length_append, List.length_cons, List.length_map, Nat.succ_mul]
    have h1 := flat_spare B r fun d hd => h d (List.mem_cons_of_mem _ hd)
    have h2 : (spareC B c).length ≤ 64 := by
      unfold spareC
      have := List.length_filter_le (spB B c) (sortS (c.ws.map (·.1)))
      rw [(sortS_perm _).length_eq, List.length_map] at this
      have := h c List.mem_cons_self
      omega
    omega
theorem spare_few {ls : List Str} {B : Bk} (g : Good ls B) : (spareOf B).length ≤ 6400 := by
  have h1 := flat_spare B (asc B) fun c hc => by have := words_few g ((asc_perm B).mem_iff.mp hc); omega
  rw [(asc_perm B).length_eq] at h1
  have h2 := g.len
  have : B.length * 64 ≤ 100 * 64 := Nat.mul_le_mul_right _ h2
  show (List.flatMap _ (asc B)).length ≤ _
  omega
theorem spare_lamp {ls : List Str} {B : Bk} (g : Good ls B) {x : Int × Str} (h : x ∈ spareOf B) : x.2 ∈ ls := by
  obtain ⟨c, hc, hx⟩ := List.mem_flatMap.mp h
  obtain ⟨l, hl, rfl⟩ := List.mem_map.mp hx
  have := (sortS_perm _).mem_iff.mp (List.mem_filter.mp hl).1
  obtain ⟨p, hp, rfl⟩ := List.mem_map.mp this
  exact g.lam c ((asc_perm B).mem_iff.mp hc) p hp
theorem spare_ok {ls : List Str} {B : Bk} (g : Good ls B) : ∀ x ∈ spareOf B, PyData.strOk x.2 = true := fun x hx => lamp_strOk (g.ok _ (spare_lamp g hx))
end
/-! ### the same book, cues and words in another order -/
theorem perm_desc {A B : Bk} (nd : (B.map (·.n)).Nodup) (h : A.Perm B) : desc A = desc B := by
  have ndA : (A.map (·.n)).Nodup := (h.map _).nodup_iff.mpr nd
  exact desc_uniq nd ((desc_perm A).trans h) (desc_strict ndA)
theorem perm_asc {A B : Bk} (nd : (B.map (·.n)).Nodup) (h : A.Perm B) : asc A = asc B := by
  have ndA : (A.map (·.n)).Nodup := (h.map _).nodup_iff.mpr nd
  have e := perm_desc nd h
  rw [desc_asc nd, desc_asc ndA] at e
  exact List.reverse_inj.mp e
theorem asc_asc {B : Bk} (nd : (B.map (·.n)).Nodup) : asc (asc B) = asc B := perm_asc nd (asc_perm B)
theorem bef_asc {B : Bk} (nd : (B.map (·.n)).Nodup) : bef (asc B) = bef B := by
  funext n l
  unfold bef
  rw [perm_desc nd (asc_perm B)]
theorem unt_asc {B : Bk} (nd : (B.map (·.n)).Nodup) : unt (asc B) = unt B := by
  funext c l
  unfold unt
  rw [bef_asc nd]
theorem spB_asc {B : Bk} (nd : (B.map (·.n)).Nodup) : spB (asc B) = spB B := by
  funext c l
  unfold spB
  rw [unt_asc nd]
theorem spare_asc {B : Bk} (nd : (B.map (·.n)).Nodup) : spareOf (asc B) = spareOf B := by
  unfold spareOf spareC
  rw [asc_asc nd, spB_asc nd]
theorem least_asc {B : Bk} (nd : (B.map (·.n)).Nodup) : leastB (asc B) = (asc B).map (leastC B) := by
  unfold leastB
  have e : leastC (asc B) = leastC B := by
    funext c
    unfold leastC
    rw [spB_asc nd]
  rw [e]
/-- A is as B, in another order -/
def LikeB (A B : Bk) : Prop := ∃ A0, A.Perm A0 ∧ SameB A0 B
theorem LikeB.of {A B : Bk} (h : SameB A B) : LikeB A B := ⟨A, .refl _, h⟩
theorem like_least {A B : Bk} (h : SameB A B) (nd : (B.map (·.n)).Nodup) : LikeB (leastB (asc A)) (leastB B) := by
  have ndA : (A.map (·.n)).Nodup := by rw [h.nums]; exact nd
  exact ⟨leastB A, by rw [least_asc ndA]; exact (asc_perm A).map _, SameB.least h nd⟩
section
variable {A B : Bk} (h : LikeB A B) (nd : (B.map (·.n)).Nodup)
include h nd
theorem LikeB.ndA : (A.map (·.n)).Nodup := by
  obtain ⟨A0, p, s⟩ := h
  exact (p.map _).nodup_iff.mpr (by rw [s.nums]; exact nd)
theorem LikeB.lvl (n : Int) (l : Str) : lvl A n l = lvl B n l := by
  obtain ⟨A0, p, s⟩ := h
  have nd0 : (A0.map (·.n)).Nodup := by rw [s.nums]; exact nd
  have e : MB.lvl A n l = MB.lvl A0 n l := by
    unfold MB.lvl
    rw [perm_desc nd0 p]
  rw [e, s.lvl nd]
theorem LikeB.asc_ : (asc A).map (·.n) = (asc B).map (·.n) := by
  obtain ⟨A0, p, s⟩ := h
  have nd0 : (A0.map (·.n)).Nodup := by rw [s.nums]; exact nd
  rw [perm_asc nd0 p, (s.asc_ nd).nums]
theorem LikeB.mem {n : Int} : n ∈ A.map (·.n) ↔ n ∈ B.map (·.n) := by
  obtain ⟨A0, p, s⟩ := h
  rw [← s.nums]
  exact (p.map _).mem_iff
theorem LikeB.cue {c : Cu} (hc : c ∈ B) : ∃ c', cueAt A c.n = some c' ∧ SameC c' c := by
  have ndA := LikeB.ndA h nd
  obtain ⟨A0, p, s⟩ := h
  obtain ⟨d, hd, k⟩ := SameB.at_ (SameB.symm s) hc
  have hdA := p.mem_iff.mpr hd
  exact ⟨d, by rw [k.n]; exact cueAt_of ndA hdA, ⟨k.n.symm, k.up.symm, k.down.symm, k.fr.symm, fun l => (k.ws l).symm⟩⟩
theorem LikeB.bef (n : Int) (l : Str) : bef A n l = bef B n l := by
  have e : n = (n - 1) + 1 := by omega
  rw [e, bef_lvl, bef_lvl, LikeB.lvl h nd]
theorem LikeB.look {n : Int} {ws : List (Str × Int)} (k : LookIs B n ws) : LookIs A n ws := ⟨k.up, fun l v => by rw [k.mem, LikeB.lvl h nd]⟩
end
theorem good_asc {ls : List Str} {B : Bk} (g : Good ls B) : Good ls (asc B) :=
  ⟨((asc_perm B).map _).nodup_iff.mpr g.nd, by rw [(asc_perm B).length_eq]; exact g.len, fun c hc => g.cue c ((asc_perm B).mem_iff.mp hc), fun c hc => g.lam c ((asc_perm B).mem_iff.mp hc), g.ok, g.few⟩
/-! ### a book put together cue by cue, word by word -/
def sortC (c : Cu) : Cu := { c with ws := sortW c.ws }
theorem sortC_same {c : Cu} (nd : (c.ws.map (·.1)).Nodup) : SameC (sortC c) c := ⟨rfl, rfl, rfl, rfl, fun l => by
  have w := words_is nd
  show wlook (sortW c.ws) l = _
  cases q : wlook c.ws l with
  | some v => exact wlook_of (tlt_nd w.up) ((w.mem l v).mpr q)
  | none =>
    cases q2 : wlook (sortW c.ws) l with
    | none => rfl
    | some v =>
      have := (w.mem l v).mp (wlook_mem q2)
      rw [q] at this; cases this⟩
theorem sort_same : ∀ {X : Bk}, (∀ c ∈ X, (c.ws.map (·.1)).Nodup) → SameB (X.map sortC) X
  | [], _ => .nil
  | c :: r, h => .cons (sortC_same (h c List.mem_cons_self)) (sort_same fun d hd => h d (List.mem_cons_of_mem _ hd))
theorem wput_new {ws : List (Str × Int)} {l : Str} {v : Int} (h : l ∉ ws.map (·.1)) : wput ws l v = ws ++ [(l, v)] := by
  unfold wput
  rw [if_neg]
  intro z
  obtain ⟨p, hp, e⟩ := List.any_eq_true.mp z
  exact h (List.mem_map.mpr ⟨p, hp, of_decide_eq_true e⟩)
theorem setW_last {X : Bk} {c : Cu} {l : Str} {v : Int} (h : c.n ∉ X.map (·.n)) : setW (X ++ [c]) c.n l v = X ++ [{ c with ws := wput c.ws l v }] := by
  unfold setW
  rw [List.map_append, List.map_singleton, if_pos rfl]
  congr 1
  conv => rhs; rw [← List.map_id X]
  refine List.map_congr_left fun d hd => ?_
  exact if_neg fun z => h (List.mem_map.mpr ⟨d, hd, z⟩)
section
variable {σ : L2.St} {H H' : Hp} {K : PySem.W.Frag} {D : Ends} {tu tz : TS} {tl : TE}
/-- a new list of new pairs, all of them new -/
def EvPn (te : TE) (σ : L2.St) (H : Hp) (kvs : List (Key × V)) : Prop := ∀ H1, Ex H H1 → ∀ Q : VK, (∀ p ts H2, H1 p = none → Ex H1 H2 → H2 p = some (.lst (ts.map V.ref)) → PrAt H2 ts kvs → (∀ t ∈ ts, H1 t = none) → Q (.ref p) H2) → te σ H1 Q
theorem EvPn.p {te : TE} {kvs : List (Key × V)} (h : EvPn te σ H kvs) : EvP te σ H kvs := fun H1 e Q q => h H1 e Q fun p ts H2 a b c d _ => q p ts H2 a b c d
/-- for x, y in new list of new pairs: .. -/
theorem q_forPn {kvs : List (Key × V)} {j1 j2 : Nat} (h : EvPn tl σ H kvs) (Pv : Addr → List Addr → Nat → L2.St → Hp → Prop) (h0 : ∀ p ts H1, H p = none → Ex H H1 → H1 p = some (.lst (ts.map V.ref)) → PrAt H1 ts kvs → (∀ t ∈ ts, H t = none) → Pv p ts 0 σ H1)
    (hl : ∀ p ts i σ' H', Pv p ts i σ' H' → H' p = some (.lst (ts.map V.ref)) ∧ PrAt H' ts kvs) (hs : ∀ p ts i q σ' H', kvs[i]? = some q → Pv p ts i σ' H' → tu { D with nx := Pv p ts (i + 1), ct := Pv p ts (i + 1), bk := tz D } ((σ'.set j1 (some (kV q.1))).set j2 (some q.2)) H')
    (hd : ∀ p ts σ' H', Pv p ts kvs.length σ' H' → tz D σ' H') : tSeq (tFor (iList K tl) (gTup K 2 (gCons (gName j1) (gCons (gName j2) gNil))) tu) tz D σ H := by
  unfold tSeq tFor iList
  refine h H (Ex.refl H) _ fun p ts H1 np e h1 k1 n1 => ⟨p, rfl, ⟨ts.map V.ref, .of h1⟩, for_list (D := { D with nx := tz D }) (fun i σ' H' => Pv p ts i σ' H') (h0 p ts H1 np e h1 k1 n1) (fun i σ' H' _ q => .of (hl p ts i σ' H' q).1) (fun i x σ' H' hx q => ?_) fun σ' H' q => ?_⟩
  · obtain ⟨hp, pr⟩ := hl p ts i σ' H' q
    rw [List.getElem?_map] at hx
    obtain ⟨t, ht, rfl⟩ := Option.map_eq_some_iff.mp hx
    have hi : i < kvs.length := by
      have := (List.getElem?_eq_some_iff.mp ht).1
      rw [prAt_len pr] at this
      exact this
    obtain ⟨t2, h2, h3⟩ := pr_at pr (List.getElem?_eq_getElem hi)
    rw [ht] at h2
    cases h2
    exact ⟨t, _, rfl, .of h3, rfl, _, _, rfl, _, _, rfl, rfl, hs p ts i kvs[i] σ' H' (List.getElem?_eq_getElem hi) q⟩
  · have : (ts.map V.ref).length = kvs.length := by rw [List.length_map]; exact prAt_len (hl p ts _ σ' H' q).2
    rw [this] at q
    exact hd p ts σ' H' q
theorem s_dropQ {te : TE} (h : te σ H fun _ H1 => D.nx σ H1) : tDrop te D σ H := h
end
/-! ### spare and least of a play -/
structure S1 (P : Program) (w : World) (K : PySem.W.Frag) (mg : Str → Option Value) (base : Heap) (C : Addr) (At : AtT) : Prop where
  spare : MOk P w K mg base C "spare" 4 ["self"] [] (spSpare At)
  alike : Alike At
structure S2 (P : Program) (w : World) (K : PySem.W.Frag) (mg : Str → Option Value) (base : Heap) (C : Addr) (At : AtT) : Prop where
  spare : MOk P w K mg base C "spare" 4 ["self"] [] (spSpare At)
  alike : Alike At
  least : MOk P w K mg base C "least" 22 ["self"] [] (spLeast At)
section
variable {P : Program} {w : World} {K : PySem.W.Frag} {mg : Str → Option Value} {base : Heap} {C : Addr} {At : AtT} {σ : L2.St} {H H' : Hp} {to : TE} {p : Addr} {ls : List Str} {B : Bk} {fp : Addr → Prop} {E : XK}
theorem ep_spare (L : Pl P w K mg base C At) (h : At H p ls B fp) (ho : Ev to σ H (.ref p)) : EvPn (tMeth C "spare" (spSpare At) [] E to tNil) σ H (pairsK (spareOf B)) := fun H1 e Q q =>
  ho H1 e _ fun H2 e2 => by
    obtain ⟨dx, fs, hi, hl⟩ := L.ins (L.ex h (e.trans e2))
    exact ⟨p, dx, fs, rfl, hi, hl "spare" (by decide), p, ls, B, fp, rfl, L.ex h (e.trans e2), fun r ts H4 nr e4 h4 k4 n4 => q r ts H4 (fresh_back e2 nr) (e2.trans e4) h4 k4 fun t ht => fresh_back e2 (n4 t ht)⟩
theorem t_least {Q : VK} (L : Pl P w K mg base C At) (h : At H p ls B fp) (ho : Ev to σ H (.ref p)) (k : ∀ x fx H2, At H2 x ls (leastB (asc B)) fx → (∀ b, fx b → H b = none) → Ex H H2 → Q (.ref x) H2) : tMeth C "least" (spLeast At) [] E to tNil σ H Q :=
  ho H (Ex.refl H) _ fun H2 e2 => by
    obtain ⟨dx, fs, hi, hl⟩ := L.ins (L.ex h e2)
    exact ⟨p, dx, fs, rfl, hi, hl "least" (by decide), p, ls, B, fp, rfl, L.ex h e2, fun x fx H4 a n e4 => k x fx H4 a (fun b hb => fresh_back e2 (n b hb)) (e2.trans e4)⟩
end
/-- what a deed leaves that was new since H -/
theorem mv_ex {fp fp' : Addr → Prop} {H H1 H2 : Hp} (e : Ex H H1) (v : Mv fp H1 fp' H2) (new : ∀ b, fp b → H b = none) : Ex H H2 := fun b u hb => v.keep b u (e b u hb) fun z => by
  rw [new b z] at hb
  cases hb
theorem mv_new {fp fp' : Addr → Prop} {H H1 H2 : Hp} (e : Ex H H1) (v : Mv fp H1 fp' H2) (new : ∀ b, fp b → H b = none) : ∀ b, fp' b → H b = none := fun b hb => (v.grow b hb).elim (new b) (fresh_back e)
theorem good_pref {ls : List Str} {B : Bk} (g : Good ls B) {i : Nat} {c : Cu} (h : (asc B)[i]? = some c) (j : Nat) : Good ls (((asc B).take i).map sortC ++ [{ c with ws := (sortW c.ws).take j }]) := by
  have ga := good_asc g
  have en : (((asc B).take i).map sortC ++ [{ c with ws := (sortW c.ws).take j }]).map (fun c : Cu => c.n) = ((asc B).take (i + 1)).map (fun c : Cu => c.n) := by
    rw [List.map_append, List.map_map, List.take_add_one, h, List.map_append]
    rfl
  have sub : ((asc B).take (i + 1)).Sublist (asc B) := List.take_sublist _ _
  have wd : ∀ d ∈ asc B, ((sortW d.ws).map (·.1)).Nodup ∧ ∀ p ∈ sortW d.ws, p ∈ d.ws := fun d hd => by
    have w := words_is (ga.cue d hd).nd
    exact ⟨tlt_nd w.up, fun p hp => wlook_mem ((w.mem p.1 p.2).mp hp)⟩
  have hc := List.mem_of_getElem? h
  refine ⟨by rw [en]; exact ga.nd.sublist (sub.map (fun c : Cu => c.n)), ?_, fun d hd => ?_, fun d hd p hp => ?_, g.ok, g.few⟩
  · have := congrArg List.length en
    rw [List.length_map, List.length_map] at this
    rw [this]
    exact Nat.le_trans sub.length_le ga.len
  · rcases List.mem_append.mp hd with hd | hd
    · obtain ⟨b, hb, rfl⟩ := List.mem_map.mp hd
      have hb := List.mem_of_mem_take hb
      have q := ga.cue b hb
      exact ⟨q.n1, q.n2, q.u1, q.u2, q.d1, q.d2, (wd b hb).1, fun p hp => q.lv p ((wd b hb).2 p hp)⟩
    · rw [List.mem_singleton.mp hd]
      have q := ga.cue c hc
      exact ⟨q.n1, q.n2, q.u1, q.u2, q.d1, q.d2, (wd c hc).1.sublist ((List.take_sublist _ _).map _), fun p hp => q.lv p ((wd c hc).2 p (List.mem_of_mem_take hp))⟩
  · rcases List.mem_append.mp hd with hd | hd
    · obtain ⟨b, hb, rfl⟩ := List.mem_map.mp hd
      have hb := List.mem_of_mem_take hb
      exact ga.lam b hb p ((wd b hb).2 p hp)
    · rw [List.mem_singleton.mp hd] at hp
      exact ga.lam c hc p ((wd c hc).2 p (List.mem_of_mem_take hp))
theorem nin_pref {B : Bk} (nd : (B.map (·.n)).Nodup) {i : Nat} {c : Cu} (h : (asc B)[i]? = some c) : c.n ∉ (((asc B).take i).map sortC).map (·.n) := by
  intro z
  obtain ⟨d, hd, e⟩ := List.mem_map.mp z
  obtain ⟨b, hb, rfl⟩ := List.mem_map.mp hd
  have e : b.n = c.n := e
  obtain ⟨j, hj, hx⟩ := List.getElem_of_mem hb
  rw [List.length_take] at hj
  rw [List.getElem_take] at hx
  obtain ⟨hi, hy⟩ := List.getElem?_eq_some_iff.mp h
  have s := List.pairwise_iff_getElem.mp (asc_strict nd) j i (by omega) hi (by omega)
  rw [hx, hy] at s
  omega
end SQ

/-! texts: a book as rows, f-strings, joins -/
namespace TX
open PySem PySem.Spec PyProof.Rows L2 Evl HB MB HW HI HM PI MC HJ
section
variable {X : Cx}
/-- a text of the module's top -/
theorem pe_cs {x z : Str} {pos : Pos} (h : ∃ t, X.mg x = some (.str z t)) (hg : Gl X x) (hd : (x == ("__debug__" : Str)) = false := by decide) : PE X (.Name x pos) (tC (.str z)) := by
  obtain ⟨t, m⟩ := h
  exact pe_glob hg m ⟨t, rfl⟩ hd
end
/-! ### texts put together -/
theorem app_assoc (a b c : Str) : a ++ b ++ c = a ++ (b ++ c) := TL.ext_tl (by rw [TL.tl_append, TL.tl_append, TL.tl_append, TL.tl_append, List.append_assoc])
theorem empty_app (a : Str) : Str.empty ++ a = a := TL.ext_tl (by rw [TL.tl_append]; rfl)
theorem app_empty (a : Str) : a ++ Str.empty = a := TL.ext_tl (by rw [TL.tl_append]; exact List.append_nil _)
theorem lit_empty : ("" : Str) = Str.empty := rfl
theorem len_app (a b : Str) : (a ++ b).length = a.length + b.length := by rw [TL.len_tl, TL.len_tl, TL.len_tl, TL.tl_append, List.length_append]
/-- a number as a text -/
def sI (i : Int) : Str := Str.ofString (toString i)
theorem sI_len {i : Int} (h1 : 0 ≤ i) (h2 : i ≤ 999999) : (sI i).length ≤ 7 := by
  unfold sI
  rw [PySem.ofString_length]
  exact int_text_length_le10 (k := 6) (by decide) (by omega)
theorem log_small {i : Int} (h1 : 0 ≤ i) (h2 : i ≤ 999999) : i.natAbs.log2 < 1920 := by
  by_cases h : i.natAbs = 0
  · rw [h]; decide
  · exact (Nat.log2_lt h).mpr (Nat.lt_of_lt_of_le (show i.natAbs < 2 ^ 20 by omega) (Nat.pow_le_pow_right (by decide) (by decide)))
/-- the rows of a cue -/
def headS (c : Cu) : Str := ("cue" : Str) ++ ((" " : Str) ++ (sI c.n ++ ((" " : Str) ++ (sI c.up ++ ((" " : Str) ++ (sI c.down ++ if c.fr = true then (" " : Str) ++ ("fresh" : Str) else Str.empty))))))
def rowS (x : Str × Int) : Str := x.1 ++ ((" " : Str) ++ sI x.2)
def rowsC (c : Cu) : List Str := headS c :: (sortW c.ws).map rowS
def textRows (B : Bk) : List Str := (asc B).flatMap rowsC
def nl (s : Str) : Str := s ++ ("\n" : Str)
def textB (B : Bk) : Str := Txt.join "" ((textRows B).map nl)
theorem head_prog (c : Cu) : ([("cue" : Str), (" " : Str), sI c.n, (" " : Str), sI c.up, (" " : Str), sI c.down, (if c.fr = true then [(" " : Str), ("fresh" : Str)].foldl (· ++ ·) Str.empty else (Str.empty : Str)), ("\n" : Str)] : List Str).foldl (· ++ ·) Str.empty = nl (headS c) := by
  unfold nl headS
  cases c.fr <;> simp only [List.foldl, empty_app, app_assoc, if_true, if_false, Bool.false_eq_true]
theorem row_prog (x : Str × Int) : ([x.1, (" " : Str), sI x.2, ("\n" : Str)] : List Str).foldl (· ++ ·) Str.empty = nl (rowS x) := by
  unfold nl rowS
  simp only [List.foldl, empty_app, app_assoc]
theorem head_law (c : Cu) : Txt.join " " ([("cue" : Str), sI c.n, sI c.up, sI c.down] ++ if c.fr = true then [("fresh" : Str)] else []) = headS c := by
  rw [TL.join_eq]
  unfold headS
  cases c.fr with
  | true =>
    show (("cue" : Str) ++ (" " : Str) ++ (sI c.n ++ (" " : Str) ++ (sI c.up ++ (" " : Str) ++ (sI c.down ++ (" " : Str) ++ ("fresh" : Str))))) = _
    simp only [app_assoc, if_true]
  | false =>
    show (("cue" : Str) ++ (" " : Str) ++ (sI c.n ++ (" " : Str) ++ (sI c.up ++ (" " : Str) ++ sI c.down))) = _
    simp only [app_assoc, app_empty, if_false, Bool.false_eq_true]
theorem row_law (x : Str × Int) : x.1 ++ (" " : Str) ++ sI x.2 = rowS x := app_assoc _ _ _
theorem sortW_keys (us : List (Str × Int)) : (sortS (us.map (·.1))).map V.str = (sortW us).map fun x => V.str x.1 := by
  unfold sortW
  rw [List.map_map]
  rfl
theorem flat_len {α : Type} (f : α → List Str) (n : Nat) : ∀ xs : List α, (∀ x ∈ xs, (f x).length ≤ n) → (xs.flatMap f).length ≤ xs.length * n
  | [], _ => by simp
  | x :: r, h => by
    rw [List.flatMap_cons, List.length_append, List.length_cons, Nat.succ_mul]
    have := flat_len f n r fun y hy => h y (List.mem_cons_of_mem _ hy)
    have := h x List.mem_cons_self
    omega
theorem sum_len (n : Nat) : ∀ xs : List Str, (∀ x ∈ xs, x.length ≤ n) → (xs.map (·.length)).sum ≤ xs.length * n
  | [], _ => by simp
  | x :: r, h => by
    rw [List.map_cons, List.sum_cons, List.length_cons, Nat.succ_mul]
    have := sum_len n r fun y hy => h y (List.mem_cons_of_mem _ hy)
    have := h x List.mem_cons_self
    omega
section
variable {ls : List Str} {B : Bk}
theorem rowsC_len (g : Good ls B) {c : Cu} (hc : c ∈ B) : (rowsC c).length ≤ 64 := by
  unfold rowsC
  rw [List.length_cons, List.length_map, sortW_len]
  have := words_few g hc
  omega
theorem asc_in {c : Cu} (h : c ∈ asc B) : c ∈ B := (asc_perm B).mem_iff.mp h
theorem rows_len (g : Good ls B) (k : Nat) : (((asc B).take k).flatMap rowsC).length ≤ 6400 := by
  have h1 := flat_len rowsC 64 ((asc B).take k) fun c hc => rowsC_len g (asc_in (List.mem_of_mem_take hc))
  have h2 : ((asc B).take k).length ≤ 100 := by
    rw [List.length_take, (asc_perm B).length_eq]
    have := g.len
    omega
  have : ((asc B).take k).length * 64 ≤ 100 * 64 := Nat.mul_le_mul_right _ h2
  omega
theorem word_of (g : Good ls B) {c : Cu} (hc : c ∈ B) {x : Str × Int} (hx : x ∈ sortW c.ws) : wlook c.ws x.1 = some x.2 ∧ LampOk x.1 ∧ 0 ≤ x.2 ∧ x.2 ≤ 100 := by
  have w := ((words_is (g.cue c hc).nd).mem x.1 x.2).mp hx
  have m := wlook_mem w
  exact ⟨w, g.ok _ (g.lam c hc _ m), (g.cue c hc).lv _ m⟩
theorem head_len (g : Good ls B) {c : Cu} (hc : c ∈ B) : (headS c).length ≤ 33 := by
  have gc := g.cue c hc
  have h1 := sI_len (i := c.n) (by have := gc.n1; omega) gc.n2
  have h2 := sI_len gc.u1 (by have := gc.u2; omega)
  have h3 := sI_len gc.d1 (by have := gc.d2; omega)
  have l1 : ("cue" : Str).length = 3 := by decide
  have l2 : (" " : Str).length = 1 := by decide
  have l3 : ((" " : Str) ++ ("fresh" : Str)).length = 6 := by decide
  have l4 : (Str.empty : Str).length = 0 := by decide
  unfold headS
  rw [len_app, len_app, len_app, len_app, len_app, len_app, len_app]
  split <;> omega
theorem word_len (g : Good ls B) {c : Cu} (hc : c ∈ B) {x : Str × Int} (hx : x ∈ sortW c.ws) : (rowS x).length ≤ 16 := by
  obtain ⟨_, k, v1, v2⟩ := word_of g hc hx
  have h2 := sI_len v1 (by omega)
  have l2 : (" " : Str).length = 1 := by decide
  have := k.len
  unfold rowS
  rw [len_app, len_app]
  omega
theorem row_len (g : Good ls B) {s : Str} (h : s ∈ textRows B) : s.length ≤ 40 := by
  obtain ⟨c, hc, hs⟩ := List.mem_flatMap.mp h
  have hc := asc_in hc
  rcases List.mem_cons.mp hs with rfl | hs
  · have := head_len g hc; omega
  · obtain ⟨x, hx, rfl⟩ := List.mem_map.mp hs
    have := word_len g hc hx; omega
theorem textRows_len (g : Good ls B) : (textRows B).length ≤ 6400 := by
  have := rows_len g (asc B).length
  rw [List.take_length] at this
  exact this
theorem text_len (g : Good ls B) : (((textRows B).map nl).map (·.length)).sum + ((textRows B).map nl).length * ("" : Str).length ≤ 16777216 := by
  have h1 := sum_len 41 ((textRows B).map nl) fun s hs => by
    obtain ⟨r, hr, rfl⟩ := List.mem_map.mp hs
    have := row_len g hr
    have l2 : ("\n" : Str).length = 1 := by decide
    unfold nl
    rw [len_app]
    omega
  have h2 := textRows_len g
  have l0 : ("" : Str).length = 0 := by decide
  rw [List.length_map] at h1 ⊢
  rw [l0]
  omega
end
/-! ### f-strings -/
inductive EvSs (σ : L2.St) (H : Hp) : List TE → List Str → Prop
  | nil : EvSs σ H [] []
  | cons {t : TE} {ts : List TE} {y : Str} {ys : List Str} (h : Ev t σ H (.str y)) (r : EvSs σ H ts ys) : EvSs σ H (t :: ts) (y :: ys)
section
variable {σ : L2.St} {H H' : Hp} {K : PySem.W.Frag} {x y z w v : V} {ta tb tc te tl td : TE} {t : TT}
theorem tjs_run {ts : List TE} {ys : List Str} (h : EvSs σ H ts ys) : ∀ (acc : Str) H1, Ex H H1 → acc.length + (ys.map (·.length)).sum ≤ 100000 → ∀ Q : Str → Hp → Prop, (∀ H2, Ex H1 H2 → Q (ys.foldl (· ++ ·) acc) H2) → tJs ts acc σ H1 Q := by
  induction h with
  | nil => exact fun acc H1 e hz Q q => q H1 (Ex.refl H1)
  | @cons t ts y ys h r ih =>
    intro acc H1 e hz Q q
    rw [List.map_cons, List.sum_cons] at hz
    refine h H1 e _ fun H2 e2 => ⟨y, rfl, sz_of (by rw [len_app]; omega), ?_⟩
    exact ih (acc ++ y) H2 (e.trans e2) (by rw [len_app]; omega) Q fun H3 e3 => q H3 (e2.trans e3)
theorem ev_joined {ts : List TE} {ys : List Str} {z : Str} (h : EvSs σ H ts ys) (hz : (ys.map (·.length)).sum ≤ 100000) (e : ys.foldl (· ++ ·) Str.empty = z) : Ev (fun σ H Q => tJs ts Str.empty σ H fun out H1 => Q (.str out) H1) σ H (.str z) := fun H1 e1 Q q => by
  subst e
  refine tjs_run h Str.empty H1 e1 ?_ _ fun H2 e2 => q H2 e2
  show 0 + _ ≤ _
  omega
theorem ev_fmtS {s : Str} (h : Ev te σ H (.str s)) (hz : s.length ≤ 100000) : Ev (tFmt te) σ H (.str s) := fun H1 e Q q => h H1 e _ fun H2 e2 => .inl ⟨s, rfl, sz_of hz, q H2 e2⟩
theorem ev_fmtI {i : Int} (h : Ev te σ H (.int i)) (h1 : 0 ≤ i) (h2 : i ≤ 999999) : Ev (tFmt te) σ H (.str (sI i)) := fun H1 e Q q => h H1 e _ fun H2 e2 => .inr ⟨i, rfl, log_small h1 h2, q H2 e2⟩
/-- str(n) -/
theorem ev_strI {i : Int} (h : Ev te σ H (.int i)) (h1 : 0 ≤ i) (h2 : i ≤ 999999) : Ev (tCB (fun xs H Q => ∃ i : Int, xs = [.int i] ∧ i.natAbs.log2 < 1920 ∧ Q (.str (toString i)) H) (tCons te tNil)) σ H (.str (sI i)) :=
  ev_cb (ea_cons h ea_nil) fun H1 _ _ q => ⟨i, rfl, log_small h1 h2, q H1 (Ex.refl H1)⟩
/-- int(truth) -/
theorem ev_int1 {b : Bool} (h : Ev te σ H (.bl b)) : Ev (tCB (fun xs H Q => (∃ i, xs = [.int i] ∧ Q (.int i) H) ∨ ∃ k, xs = [.bl k] ∧ Q (.int (if k then 1 else 0)) H) (tCons te tNil)) σ H (.int (if b = true then 1 else 0)) :=
  ev_cb (ea_cons h ea_nil) fun H1 _ _ q => .inr ⟨b, rfl, q H1 (Ex.refl H1)⟩
/-- [x] * int(truth) -/
theorem el_rep1 {b : Bool} (ha : EvL ta σ H [x]) (hb : Ev tb σ H (.int (if b = true then 1 else 0))) : EvL (tOp rRep ta tb) σ H (if b = true then [x] else []) := fun H1 e Q q =>
  ha H1 e _ fun p H2 _ e2 h2 => hb H2 (e.trans e2) _ fun H3 e3 => ⟨p, _, [x], rfl, rfl, e3 _ _ h2, by cases b <;> decide, by cases b <;> decide, by cases b <;> exact sz_of (by show 1 * _ ≤ 100000; decide), fun d hd =>
    q d _ (fresh_back (e2.trans e3) hd) ((e2.trans e3).trans (Ex.new hd)) (by rw [upd_same]; cases b <;> rfl)⟩
/-- two new lists put together -/
theorem el_catNN {xs zs : List V} (ha : EvL ta σ H xs) (hb : EvL tb σ H zs) (hz : xs.length + zs.length ≤ 100000) : EvL (tOp rCat ta tb) σ H (xs ++ zs) := fun H1 e Q q =>
  ha H1 e _ fun a H2 _ e2 h2 => hb H2 (e.trans e2) _ fun b H3 _ e3 h3 => ⟨a, b, xs, zs, rfl, rfl, e3 _ _ h2, h3, sz_of hz, fun p hp => q p _ (fresh_back (e2.trans e3) hp) ((e2.trans e3).trans (Ex.new hp)) upd_same⟩
/-- sep.join(list that lies there) -/
theorem ev_joinV {a : Str} {p : Addr} {ys : List Str} (h : Ev ta σ H (.str a)) (h2 : Ev te σ H (.ref p)) (hp : SqL K H p (ys.map V.str)) (hz : (ys.map (·.length)).sum + ys.length * a.length ≤ 16777216) :
    Ev (tM1 (fun x xs H Q => ∃ a p, ∃ ys : List Str, x = .str a ∧ xs = [.ref p] ∧ (SqL K H p (ys.map V.str) ∨ SqT K H p (ys.map V.str)) ∧ (ys.map (·.length)).sum + ys.length * a.length ≤ 16777216 ∧ Q (.str (Txt.join a ys)) H) ta te) σ H (.str (Txt.join a ys)) := fun H1 e _ q =>
  h H1 e _ fun H2 e2 => ⟨⟨a, rfl⟩, h2 H2 (e.trans e2) _ fun H3 e3 => ⟨a, p, ys, rfl, rfl, .inl (ex_l ((e.trans e2).trans e3) hp), hz, q H3 (e2.trans e3)⟩⟩
variable {D : Ends} {tu tz : TS}
/-- the last statement: for over a new list -/
theorem s_forNLn {xs : List V} {tl : TE} {j : Nat} (h : EvL tl σ H xs) (Pv : Addr → Nat → L2.St → Hp → Prop) (h0 : ∀ p H1, H p = none → Ex H H1 → H1 p = some (.lst xs) → Pv p 0 σ H1) (hl : ∀ p i σ' H', i ≤ xs.length → Pv p i σ' H' → SqL K H' p xs)
    (hs : ∀ p i x σ' H', xs[i]? = some x → Pv p i σ' H' → tu { D with nx := Pv p (i + 1), ct := Pv p (i + 1), bk := D.nx } (σ'.set j (some x)) H') (hd : ∀ p σ' H', Pv p xs.length σ' H' → D.nx σ' H') : tFor (iList K tl) (gName j) tu D σ H :=
  s_forNL h Pv h0 hl hs hd
/-- the last statement: for over the keys of a dict -/
theorem s_forKeys {a : Addr} {kvs : List (Key × V)} {j : Nat} (hx : H a = some (.dK kvs)) (h : ∀ H1, Ev tl σ H1 (.ref a)) (Pv : Obj → Nat → L2.St → Hp → Prop) (h0 : ∀ o, Pv o 0 σ (upd H a (.frz o (.dK kvs)))) (hl : ∀ o i σ' H', Pv o i σ' H' → H' a = some (.frz o (.dK kvs)))
    (h1 : ∀ o σ' H1 H2, Ex H1 H2 → Pv o 0 σ' H1 → Pv o 0 σ' H2)
    (hs : ∀ o i k x σ' H', kvs[i]? = some (k, x) → Pv o i σ' H' → tu ⟨Pv o (i + 1), fun v H' => H' a = some (.frz o (.dK kvs)) ∧ D.rt v (upd H' a (.dK kvs)), fun σ' H' => H' a = some (.frz o (.dK kvs)) ∧ D.nx σ' (upd H' a (.dK kvs)), Pv o (i + 1)⟩ (σ'.set j (some (kV k))) H')
    (hd : ∀ o σ' H', Pv o kvs.length σ' H' → D.nx σ' (upd H' a (.dK kvs))) : tLock (tFor (iKeys tl) (gName j) tu) D σ H :=
  q_forKeys (tz := fun D => D.nx) hx h Pv h0 hl h1 hs hd
end
end TX

/-! the law's side: a model whose words are told in another order -/
namespace SR
open PySem PySem.Spec PyProof.Rows L2 Evl HB MB HW HI HM PI MC HJ HG PS PT MD RP RQ RM SP SQ
inductive RowsEq : List CRow → List CRow → Prop
  | nil : RowsEq [] []
  | cons {r r' : CRow} {R R' : List CRow} : r.la = r'.la → r.wa = r'.wa → SameC r.c r'.c → RowsEq R R' → RowsEq (r :: R) (r' :: R')
theorem RowsEq.refl : ∀ R : List CRow, RowsEq R R
  | [] => .nil
  | r :: R => .cons rfl rfl (.refl _) (RowsEq.refl R)
theorem RowsEq.trans : ∀ {R S T : List CRow}, RowsEq R S → RowsEq S T → RowsEq R T
  | _, _, _, .nil, .nil => .nil
  | _, _, _, .cons a b c h, .cons a2 b2 c2 k => .cons (a.trans a2) (b.trans b2) (c.trans c2) (h.trans k)
theorem RowsEq.bk : ∀ {R S : List CRow}, RowsEq R S → SameB (bk R) (bk S)
  | _, _, .nil => .nil
  | _, _, .cons _ _ c h => .cons c h.bk
theorem RowsEq.at_ {r : CRow} : ∀ {R S : List CRow}, RowsEq R S → r ∈ R → ∃ s ∈ S, r.la = s.la ∧ r.wa = s.wa ∧ SameC r.c s.c
  | _, _, .nil, h => absurd h List.not_mem_nil
  | _, _, .cons a b c k, h => by
    rcases List.mem_cons.mp h with rfl | h
    · exact ⟨_, List.mem_cons_self, a, b, c⟩
    · obtain ⟨s, hs, e⟩ := RowsEq.at_ k h
      exact ⟨s, List.mem_cons_of_mem _ hs, e⟩
theorem RowsEq.back {s : CRow} : ∀ {R S : List CRow}, RowsEq R S → s ∈ S → ∃ r ∈ R, r.la = s.la ∧ r.wa = s.wa ∧ SameC r.c s.c
  | _, _, .nil, h => absurd h List.not_mem_nil
  | _, _, .cons a b c k, h => by
    rcases List.mem_cons.mp h with rfl | h
    · exact ⟨_, List.mem_cons_self, a, b, c⟩
    · obtain ⟨r, hr, e⟩ := RowsEq.back k h
      exact ⟨r, List.mem_cons_of_mem _ hr, e⟩
theorem RowsEq.mf {m b : Addr} {R S : List CRow} (h : RowsEq R S) : MF m R b ↔ MF m S b := by
  constructor
  · rintro (z | ⟨r, hr, z⟩)
    · exact .inl z
    · obtain ⟨s, hs, e1, e2, _⟩ := h.at_ hr
      exact .inr ⟨s, hs, by rw [← e1, ← e2]; exact z⟩
  · rintro (z | ⟨r, hr, z⟩)
    · exact .inl z
    · obtain ⟨s, hs, e1, e2, _⟩ := h.back hr
      exact .inr ⟨s, hs, by rw [e1, e2]; exact z⟩
theorem RowsEq.mod {n : Int} {g : List (Str × Int) → List (Str × Int)} : ∀ {R : List CRow}, (∀ r ∈ R, r.c.n = n → ∀ l, wlook (g r.c.ws) l = wlook r.c.ws l) → RowsEq R (modR R n g)
  | [], _ => .nil
  | r :: R, h => by
    show RowsEq (r :: R) ((if r.c.n = n then _ else r) :: modR R n g)
    have ih := RowsEq.mod (R := R) fun x hx => h x (List.mem_cons_of_mem _ hx)
    by_cases e : r.c.n = n
    · rw [if_pos e]
      exact .cons rfl rfl ⟨rfl, rfl, rfl, rfl, fun l => (h r List.mem_cons_self e l).symm⟩ ih
    · rw [if_neg e]
      exact .cons rfl rfl (.refl _) ih
theorem modR_modR (R : List CRow) (n : Int) (f g : List (Str × Int) → List (Str × Int)) : modR (modR R n f) n g = modR R n fun ws => g (f ws) := by
  unfold modR
  rw [List.map_map]
  refine List.map_congr_left fun r _ => ?_
  by_cases e : r.c.n = n
  · show (if (if r.c.n = n then ({ r with c := { r.c with ws := f r.c.ws } } : CRow) else r).c.n = n then _ else _) = _
    simp only [if_pos e]
  · show (if (if r.c.n = n then ({ r with c := { r.c with ws := f r.c.ws } } : CRow) else r).c.n = n then _ else _) = _
    simp only [if_neg e]
section
variable {σ : L2.St} {H H' : Hp} {K : PySem.W.Frag} {td ty te ta tb : TE} {v x : V} {D : Ends} {tu tz : TS}
/-- x = d.pop(k) -/
theorem q_asgPop {a : Addr} {kvs : List (Key × V)} {k : Key} {i : Nat} (hd : Ev td σ H (.ref a)) (hk : Ev ty σ H (kV k)) (h : H a = some (.dK kvs)) (hv : valV kvs k = some v) (q : ∀ H1, Ex H H1 → tz D (σ.set i (some v)) (upd H1 a (.dK (dropK kvs k)))) : tSeq (tAsg (tDPop1 td ty) (gName i)) tz D σ H :=
  hd H (Ex.refl H) _ fun H1 e1 => ⟨a, rfl, .inl ⟨kvs, .inl (e1 _ _ h)⟩, hk H1 e1 _ fun H2 e2 => ⟨kvs, k, v, e2 _ _ (e1 _ _ h), rfl, hv, q H2 (e1.trans e2)⟩⟩
/-- if f(..) == e: .., the call's own heap -/
theorem s_ifCallEq {sp : Sp} {E : XK} {tA : TA} {vs : List V} (ha : EvA tA σ H vs) (mono : ∀ vs H (Q Q' : VK) E, (∀ v H, Q v H → Q' v H) → sp vs H Q E → sp vs H Q' E)
    (hs : ∀ H1, Ex H H1 → sp (vs ++ []) H1 (fun x H2 => ∃ y, Ev tb σ H2 y ∧ scal x y = true ∧ (x = y → ∀ H3, Ex H2 H3 → tu D σ H3) ∧ (x ≠ y → ∀ H3, Ex H2 H3 → D.nx σ H3)) E) : tIfS (tTest (tOp rEq (tCall sp [] E tA) tb)) tu tNext D σ H := by
  refine ha H (Ex.refl H) (fun ws H1 => sp (ws ++ []) H1 _ E) fun H1 e1 => mono _ _ _ _ _ (fun x H2 h => ?_) (hs H1 e1)
  obtain ⟨y, hy, sc, h1, h2⟩ := h
  refine hy H2 (Ex.refl H2) _ fun H3 e3 => ⟨sc, decide (x = y), rfl, ?_⟩
  by_cases e : x = y
  · rw [decide_eq_true e]
    exact iteT (h1 e H3 e3)
  · rw [decide_eq_false e]
    exact iteF (h2 e H3 e3)
end
/-- a model stands under a deed elsewhere -/
theorem mat_off {H H' : Hp} {m : Addr} {R : List CRow} {fx fx' : Addr → Prop} (h : MAt H m R) (v : Mv fx H fx' H') (n : ∀ b, MF m R b → ¬ fx b) : MAt H' m R ∧ ∀ b, MF m R b → ¬ fx' b :=
  ⟨h.frame fun b u hb hu => v.keep b u hu (n b hb), fun b hb z => by
    rcases v.grow b z with z | z
    · exact n b hb z
    · obtain ⟨u, hu⟩ := h.known hb
      rw [z] at hu; cases hu⟩
/-- a word untold and told again -/
theorem retold {A : Bk} (nd : (A.map (·.n)).Nodup) {c : Cu} (hc : c ∈ A) {l : Str} {v : Int} (h : wlook c.ws l = some v) : SameB (setW (dropW A c.n l) c.n l v) A :=
  ((Lk.drop (k := c.n) (j := l) (Lk.refl A)).set (k := c.n) (j := l) (v := v)).same (Lk.refl A) fun d hd k => by
    by_cases e : d.n = c.n ∧ k = l
    · rw [if_pos e, e.2, nodup_at nd hd hc e.1, h]
    · rw [if_neg e, if_neg e]
/-! ### the law k06 -/
theorem pair_eqv (a b : Int) (s t : Str) : PyData.eqv (.tuple [.int a, .str s]) (.tuple [.int b, .str t]) = decide (a = b ∧ s = t) := by
  simp [PyData.eqv, PyData.eqvAll]
  rw [Bool.eq_iff_iff]
  simp
theorem any_pair (xs : List (Int × Str)) (n : Int) (l : Str) : ((xs.map fun x => PyData.tuple [.int x.1, .str x.2]).any fun z => PyData.eqv z (.tuple [.int n, .str l])) = decide ((n, l) ∈ xs) := by
  rw [List.any_map]
  rw [Bool.eq_iff_iff, List.any_eq_true, decide_eq_true_eq]
  constructor
  · rintro ⟨x, hx, e⟩
    have e : PyData.eqv (.tuple [.int x.1, .str x.2]) (.tuple [.int n, .str l]) = true := e
    rw [pair_eqv] at e
    have e := of_decide_eq_true e
    rw [← e.1, ← e.2]
    exact hx
  · intro h
    exact ⟨(n, l), h, by show PyData.eqv (.tuple [.int n, .str l]) (.tuple [.int n, .str l]) = true; rw [pair_eqv]; exact decide_eq_true ⟨rfl, rfl⟩⟩
section
variable {σ : L2.St} {H H' : Hp} {K : PySem.W.Frag} {td ty te ta tb tl tv : TE} {v x y z : V} {D : Ends} {tu tz : TS} {t : TT}
theorem pr_of_keep {ts : List Addr} {xs : List (Int × Str)} {p : Addr} (h1 : H p = some (.lst (ts.map V.ref))) (h2 : PrAt H ts (pairsK xs)) (e : Ex H H') : Dp K H' (.ref p) (pD xs) := pD_dp (e _ _ h1) (pr_ex h2 e)
/-- (n, l) not in a list of pairs -/
theorem et_notinP {S : Addr} {ts : List Addr} {xs : List (Int × Str)} {n : Int} {l : Str} (h1 : Ev ta σ H (.int n)) (h2 : Ev tb σ H (.str l)) (hs : Ev te σ H (.ref S)) (hS : H S = some (.lst (ts.map V.ref))) (pr : PrAt H ts (pairsK xs)) (ok : ∀ x ∈ xs, PyData.strOk x.2 = true) (okl : PyData.strOk l = true) :
    EvT (tTest (tOp (rNotInD K) (tTup (tCons ta (tCons tb tNil))) te)) σ H (!decide ((n, l) ∈ xs)) :=
  et_test fun H1 e Q q => eu_tup (ea_cons h1 (ea_cons h2 ea_nil)) (by show 2 ≤ 100000; decide) H1 e _ fun t H2 _ e2 ht => hs H2 (e.trans e2) _ fun H3 e3 => ⟨.tuple [.int n, .str l], xs.map fun x : Int × Str => PyData.tuple [.int x.1, .str x.2], .tup (.of (e3 _ _ ht)) (.cons (.int _) (.cons (.str _) .nil)),
    pr_of_keep hS pr ((e.trans e2).trans e3), by
      have := pD_shaped [(n, l)] (by intro x hx; rw [List.mem_singleton.mp hx]; exact okl)
      unfold SeqAt.shaped at this ⊢
      rw [PyData.canLay0, PyData.canLayAll0, PyData.canLay0, PyData.canLayAll0, PyData.canLay0, PyData.canLayAll0, okl, PyData.depth, PyData.depthAll, PyData.depth, PyData.depthAll, PyData.depth, PyData.depthAll]
      decide, (pD_shaped xs ok : SeqAt.shaped (.list (xs.map fun x => PyData.tuple [.int x.1, .str x.2])) = true), by rw [any_pair]; exact q H3 (e2.trans e3)⟩
/-- [(.., ..) for x, y in d.items() if ..], d locked -/
theorem ep_lcItems {a : Addr} {kvs : List (Key × V)} {o : Obj} {j1 j2 : Nat} {vs : List Nat} (f : Nat → Bool) (g : Nat → Key × V) (h : Ev tl σ H (.ref a)) (hx : H a = some (.frz o (.dK kvs))) (hz : kvs.length ≤ 40000) (hw : ∀ x y, wipe (((wipe σ vs).set j1 (some x)).set j2 (some y)) vs = wipe σ vs)
    (ht : ∀ (i : Nat) (k : Key) (x : V) H1, Ex H H1 → kvs[i]? = some (k, x) → EvT t (((wipe σ vs).set j1 (some (kV k))).set j2 (some x)) H1 (f i)) (he : ∀ (i : Nat) (k : Key) (x : V) H1, Ex H H1 → kvs[i]? = some (k, x) → f i = true → EvU te (((wipe σ vs).set j1 (some (kV k))).set j2 (some x)) H1 [kV (g i).1, (g i).2]) :
    EvP (tLc (iItems tl) (gTup K 2 (gCons (gName j1) (gCons (gName j2) gNil))) t te vs) σ H (givenP kvs.length f g) := fun H0 e Q q => h H0 e _ fun H1 e1 => ⟨a, o, kvs, rfl, e1 _ _ (e _ _ hx), fun D hD =>
  lc_it walk_items (CwP H1 f g D) ⟨hD, Ex.new hD, [], upd_same, .nil, List.not_mem_nil⟩ (fun _ _ _ p => p.2.1 _ _ (e1 _ _ (e _ _ hx))) (fun i x Hb Hc hi p hy => by
    obtain ⟨T, k, v, rfl, nT, rfl, hk, hv⟩ := hy
    obtain ⟨q, hq⟩ : ∃ q, kvs[i]? = some q := ⟨kvs[i], List.getElem?_eq_getElem hi⟩
    dsimp only at hk hv
    rw [hq] at hk hv
    cases hk
    cases hv
    refine ⟨T, [kV q.1, q.2], rfl, .of upd_same, rfl, _, _, rfl, _, _, rfl, rfl, hw _ _, ?_⟩
    obtain ⟨p1, p2, ps, p3, p4, p5⟩ := p
    have nTD : T ≠ D := fun z => by rw [z, p3] at nT; cases nT
    have eT : Ex Hb (upd Hb T (.tup [kV q.1, q.2])) := Ex.new nT
    refine cwP_turn ⟨p1, p2.trans eT, ps, by rw [upd_ne (Ne.symm nTD)]; exact p3, pr_ex p4 eT, p5⟩ (by omega) (ht i q.1 q.2 H1 (e.trans e1) hq) fun hf => he i q.1 q.2 H1 (e.trans e1) hq hf) fun Hb ⟨p1, p2, ps, p3, p4, _⟩ => q D ps Hb (fresh_back e1 p1) (e1.trans p2) p3 p4⟩
/-- x = [(.., ..) for x, y in d.items() if ..] -/
theorem q_lcItems {a : Addr} {kvs : List (Key × V)} {i j1 j2 : Nat} {vs : List Nat} (f : Nat → Bool) (g : Nat → Key × V) (hx : H a = some (.dK kvs)) (h : ∀ o, Ev tl σ (upd H a (.frz o (.dK kvs))) (.ref a)) (hz : kvs.length ≤ 40000) (hw : ∀ x y, wipe (((wipe σ vs).set j1 (some x)).set j2 (some y)) vs = wipe σ vs)
    (ht : ∀ o (i : Nat) (k : Key) (x : V) H1, Ex (upd H a (.frz o (.dK kvs))) H1 → kvs[i]? = some (k, x) → EvT t (((wipe σ vs).set j1 (some (kV k))).set j2 (some x)) H1 (f i)) (he : ∀ o (i : Nat) (k : Key) (x : V) H1, Ex (upd H a (.frz o (.dK kvs))) H1 → kvs[i]? = some (k, x) → f i = true → EvU te (((wipe σ vs).set j1 (some (kV k))).set j2 (some x)) H1 [kV (g i).1, (g i).2])
    (k : ∀ p ts H1, H p = none → Ex H H1 → H1 p = some (.lst (ts.map V.ref)) → PrAt H1 ts (givenP kvs.length f g) → tz D (σ.set i (some (.ref p))) H1) : tSeq (tLock (tAsg (tLc (iItems tl) (gTup K 2 (gCons (gName j1) (gCons (gName j2) gNil))) t te vs) (gName i))) tz D σ H :=
  ⟨a, .dK kvs, hx, by simp [Mut], fun o => ep_lcItems f g (h o) upd_same hz hw (ht o) (he o) _ (Ex.refl _) _ fun p ts H2 np e2 h2 k2 => by
    have hz : H2 a = some (.frz o (.dK kvs)) := e2 _ _ upd_same
    have ne : p ≠ a := fun z => by rw [z, upd_same] at np; cases np
    rw [upd_ne ne] at np
    exact ⟨hz, k p ts _ np (ex_lock hx e2) (by rw [upd_ne ne]; exact h2) (prAt_unlock hz k2)⟩⟩
/-- dict(list of pairs that lies there) -/
theorem ed_dictV {a : Addr} {ps : List Addr} {kvs : List (Key × V)} (h : Ev ta σ H (.ref a)) (ha : H a = some (.lst (ps.map V.ref))) (pr : PrAt H ps kvs) (nd : (kvs.map (·.1)).Nodup) : EvD (tCB (fun xs H Q => ∃ (a : Addr) (ps : List Addr) (kvs : List (Key × V)), xs = [.ref a] ∧ SqL K H a (ps.map V.ref) ∧ Paired (fun p kv => SqT K H p [kV kv.1, kv.2]) ps kvs ∧
    ∀ p, H p = none → Q (.ref p) (upd H p (.dK (mergeK [] kvs)))) (tCons ta tNil)) σ H kvs := fun H1 e Q q =>
  h H1 e _ fun H2 e2 => ⟨a, ps, kvs, rfl, .of ((e.trans e2) _ _ ha), prAt_sqT (pr_ex pr (e.trans e2)), fun d hd => q d _ (fresh_back e2 hd) (e2.trans (Ex.new hd)) (by rw [upd_same, merge_new kvs [] (by rw [List.nil_append]; exact nd)]; rfl)⟩
/-- m[n] = row[:3] + [new dict] -/
theorem s_put3 {m la0 : Addr} {kvs : List (Key × V)} {xs : List V} {ws : List (Key × V)} {n : Int} {tp tq : TO} {lo hi : Option Int} (hr : Ev ta σ H (.ref la0)) (h1 : EvO tp σ H lo) (h2 : EvO tq σ H hi) (hla : SqL K H la0 xs) (hw : EvD tb σ H ws) (hd : Ev td σ H (.ref m)) (hk : Ev ty σ H (.int n)) (h : H m = some (.dK kvs)) (hz : kvs.length < 100000) (hxs : (cutV xs lo hi).length < 100)
    (q : ∀ la wa H1, H la = none → H wa = none → Ex H H1 → H1 la = some (.lst (cutV xs lo hi ++ [.ref wa])) → H1 wa = some (.dK ws) → D.nx σ (upd H1 m (.dK (putK kvs (.inl n) (.ref la))))) :
    sDPut td ty (tOp rCat (tSl (rSlL K) ta tp tq) (tLst (tCons tb tNil))) D σ H :=
  el_sl hr h1 h2 hla H (Ex.refl H) _ fun a1 H1 n1 e1 k1 => hw H1 e1 _ fun wa H2 nwa e2 hwa => ⟨by show 1 ≤ sizeLine; decide, fun b nb => by
    have neb : wa ≠ b := fun z => by rw [z, nb] at hwa; cases hwa
    have nea : a1 ≠ b := fun z => by rw [← z, e2 _ _ k1] at nb; cases nb
    have e3 : Ex H2 (upd H2 b (.lst [.ref wa])) := Ex.new nb
    refine ⟨a1, b, cutV xs lo hi, [.ref wa], rfl, rfl, by rw [upd_ne nea]; exact e2 _ _ k1, upd_same, sz_of (by simp only [List.length_singleton]; omega), fun la nla => ?_⟩
    have e4 : Ex (upd H2 b (.lst [.ref wa])) (upd (upd H2 b (.lst [.ref wa])) la (.lst (cutV xs lo hi ++ [.ref wa]))) := Ex.new nla
    have e14 := e1.trans (e2.trans (e3.trans e4))
    have nwla : wa ≠ la := fun z => by rw [← z, upd_ne neb, hwa] at nla; cases nla
    refine hd _ e14 _ fun H5 e5 => hk H5 (e14.trans e5) _ fun H6 e6 => ⟨m, _, rfl, DPut.k (k := .inl n) ((e14.trans (e5.trans e6)) _ _ h) (sz_lt hz), q la wa H6 (fresh_back (e1.trans (e2.trans e3)) nla) (fresh_back e1 nwa) (e14.trans (e5.trans e6)) (e6 _ _ (e5 _ _ upd_same)) (e6 _ _ (e5 _ _ (by rw [upd_ne nwla, upd_ne neb]; exact hwa)))⟩⟩
/-- [x for x in list of tuples if not a tuple] -/
theorem el_notTup {a : Addr} {ts : List Addr} {kvs : List (Key × V)} {j : Nat} {vs : List Nat} (h : Ev tl σ H (.ref a)) (ha : H a = some (.lst (ts.map V.ref))) (pr : PrAt H ts kvs) (hz : ts.length ≤ 40000) (hw : ∀ x, wipe ((wipe σ vs).set j (some x)) vs = wipe σ vs)
    (ht : ∀ (b : Addr) (k : Key × V) H1, Ex H H1 → H1 b = some (.tup [kV k.1, k.2]) → EvT t ((wipe σ vs).set j (some (.ref b))) H1 false) : EvL (tLc (iList K tl) (gName j) t te vs) σ H [] := by
  have e0 : ([] : List V) = given (ts.map V.ref).length (fun _ => false) (fun _ => .non) := by
    unfold given
    rw [List.filter_eq_nil_iff.mpr fun _ _ => by decide]
    rfl
  rw [e0]
  refine el_lcL _ _ h (.of ha) (by rw [List.length_map]; exact hz) hw (fun i x H1 e1 hx => ?_) fun i x H1 e1 hx hf => absurd hf (by decide)
  rw [List.getElem?_map] at hx
  obtain ⟨b, hb, rfl⟩ := Option.map_eq_some_iff.mp hx
  have hi : i < kvs.length := by
    have := (List.getElem?_eq_some_iff.mp hb).1
    rw [prAt_len pr] at this
    exact this
  obtain ⟨b2, h2, h3⟩ := pr_at pr (List.getElem?_eq_getElem hi)
  rw [hb] at h2
  cases h2
  exact ht b _ H1 e1 (e1 _ _ h3)
/-- if not f(..): .. where f tells True -/
theorem q_ifNot {sp : Sp} {E : XK} {tA : TA} {vs : List V} (ha : EvA tA σ H vs) (mono : ∀ vs H (Q Q' : VK) E, (∀ v H, Q v H → Q' v H) → sp vs H Q E → sp vs H Q' E) (hs : ∀ H1, Ex H H1 → sp (vs ++ []) H1 (fun v H2 => v = .bl true ∧ tz D σ H2) E) : tSeq (tIfS (tNot (tB (tCall sp [] E tA))) tu tNext) tz D σ H :=
  ha H (Ex.refl H) (fun ws H1 => sp (ws ++ []) H1 _ E) fun H1 e1 => mono _ _ _ _ _ (fun v H2 ⟨e, q⟩ => by
    subst e
    exact ⟨true, rfl, q⟩) (hs H1 e1)
end
/-- what a deed leaves elsewhere -/
structure Far (N fx : Addr → Prop) (H : Hp) : Prop where
  off : ∀ b, N b → ¬ fx b
  kn : ∀ b, N b → ∃ u, H b = some u
theorem Far.ex {N fx : Addr → Prop} {H H' : Hp} (f : Far N fx H) (e : Ex H H') : Far N fx H' := ⟨f.off, fun b hb => by
  obtain ⟨u, hu⟩ := f.kn b hb
  exact ⟨u, e _ _ hu⟩⟩
theorem Far.go {N fx fx' : Addr → Prop} {H H' : Hp} (f : Far N fx H) (v : Mv fx H fx' H') : Far N fx' H' ∧ ∀ b u, N b → H b = some u → H' b = some u := by
  refine ⟨⟨fun b hb z => ?_, fun b hb => ?_⟩, fun b u hb hu => v.keep b u hu (f.off b hb)⟩
  · rcases v.grow b z with z | z
    · exact f.off b hb z
    · obtain ⟨u, hu⟩ := f.kn b hb
      rw [z] at hu; cases hu
  · obtain ⟨u, hu⟩ := f.kn b hb
    exact ⟨u, v.keep b u hu (f.off b hb)⟩
theorem look_least {B : Bk} {n : Int} {ws : List (Str × Int)} (nd : (B.map (·.n)).Nodup) (h : LookIs B n ws) : LookIs (leastB (asc B)) n ws := by
  have nda : ((asc B).map (·.n)).Nodup := ((asc_perm B).map _).nodup_iff.mpr nd
  have e : ∀ k l, lvl (asc B) k l = lvl B k l := fun k l => by
    unfold lvl
    rw [perm_desc nd (asc_perm B)]
  exact ⟨h.up, fun l v => by rw [h.mem, lvl_least nda, e]⟩
theorem wn_bk {H : Hp} {m : Addr} {R : List CRow} (h : MAt H m R) : ∀ c ∈ bk R, (c.ws.map (·.1)).Nodup := fun c hc => by
  obtain ⟨r, hr, rfl⟩ := List.mem_map.mp hc
  exact h.wn r hr
theorem val_mrow {R : List CRow} {r : CRow} (nd : ((bk R).map (·.n)).Nodup) (hr : r ∈ R) : valV (mkv R) (.inl r.c.n) = some (.ref r.la) := by
  obtain ⟨r2, h2, e2, _, e3⟩ := row_of (cueAt_of nd (List.mem_map.mpr ⟨r, hr, rfl⟩))
  rw [e3, nodup_at (nd_n nd) h2 hr (by rw [e2])]
theorem take_nin {R : List CRow} {i : Nat} {r : CRow} (nd : ((bk R).map (·.n)).Nodup) (h : R[i]? = some r) (f : Cu → Cu) (hf : ∀ c, (f c).n = c.n) : r.c.n ∉ (((bk R).take i).map f).map (·.n) := by
  intro z
  obtain ⟨d, hd, e⟩ := List.mem_map.mp z
  obtain ⟨b, hb, rfl⟩ := List.mem_map.mp hd
  have e : b.n = r.c.n := by rw [← hf]; exact e
  obtain ⟨j, hj, hx⟩ := List.getElem_of_mem hb
  rw [List.length_take] at hj
  rw [List.getElem_take] at hx
  obtain ⟨hi, hy⟩ := List.getElem?_eq_some_iff.mp h
  have hi2 : i < (bk R).length := by rw [List.length_map]; exact hi
  have k1 : ((bk R).map (·.n))[j]'(by rw [List.length_map]; omega) = ((bk R).map (·.n))[i]'(by rw [List.length_map]; exact hi2) := by
    rw [List.getElem_map, List.getElem_map, List.getElem_map, List.getElem_map]
    rw [List.getElem_map] at hx
    rw [hx, e, hy]
  have := (List.getElem_inj nd).mp k1
  omega
/-- deeds one after another, all else stays -/
structure Wd (H0 : Hp) (N : Addr → Prop) (H1 : Hp) (pl : Addr) (u : HO) (fx : Addr → Prop) (Ha : Hp) : Prop where
  ex : Ex H0 Ha
  new : ∀ z, fx z → H0 z = none
  far : Far N fx Ha
  kp : ∀ b u, N b → H1 b = some u → Ha b = some u
  at_ : Ha pl = some u
  np : ¬ fx pl
theorem Wd.mono {H0 H1 Ha Hb : Hp} {N fx : Addr → Prop} {pl : Addr} {u : HO} (w : Wd H0 N H1 pl u fx Ha) (e : Ex Ha Hb) : Wd H0 N H1 pl u fx Hb := ⟨w.ex.trans e, w.new, w.far.ex e, fun b u hb hu => e _ _ (w.kp b u hb hu), e _ _ w.at_, w.np⟩
theorem Wd.go {H0 H1 Ha Hb : Hp} {N fx fx' : Addr → Prop} {pl : Addr} {u : HO} (w : Wd H0 N H1 pl u fx Ha) (v : Mv fx Ha fx' Hb) : Wd H0 N H1 pl u fx' Hb := by
  obtain ⟨f1, f2⟩ := w.far.go v
  obtain ⟨g1, g2⟩ := v.off w.at_ w.np
  exact ⟨mv_ex w.ex v w.new, mv_new w.ex v w.new, f1, fun b u hb hu => f2 b u hb (w.kp b u hb hu), g1, g2⟩
theorem cue_put {A : Bk} {n : Int} {l : Str} {v : Int} (nd : ((setW A n l v).map (·.n)).Nodup) (h : n ∈ A.map (·.n)) : ∃ c, cueAt (setW A n l v) n = some c ∧ (wlook c.ws l).isSome = true := by
  obtain ⟨d, hd, rfl⟩ := List.mem_map.mp h
  have hm : ({ d with ws := wput d.ws l v } : Cu) ∈ setW A d.n l v := List.mem_map.mpr ⟨d, hd, if_pos rfl⟩
  exact ⟨{ d with ws := wput d.ws l v }, cueAt_of nd hm, by show (wlook (wput d.ws l v) l).isSome = true; rw [wlook_wput, if_pos rfl]; rfl⟩
theorem dropW_nums (A : Bk) (n : Int) (l : Str) : (dropW A n l).map (·.n) = A.map (·.n) := by
  unfold dropW modB
  rw [List.map_map]
  refine List.map_congr_left fun d _ => ?_
  show (if d.n = n then _ else d).n = d.n
  split <;> rfl
end SR

/-! a text read row by row: what comes of it -/
namespace RD
open PySem PySem.Spec PyProof.Rows L2 Evl HB GX MB HW HI HM PI MC HJ PS PT MD MX RP RQ RM RL RS RT RX RY RZ RA SP SQ TX
def isFig (c : Nat) : Bool := decide (48 ≤ c) && decide (c ≤ 57)
/-- a number as it may stand in a row, or -1 -/
def numW (w : Str) : Int := if (decide (w.cps.toList.length < 1) || decide (6 < w.cps.toList.length)) = true then -1 else if w.cps.toList.all isFig = false then -1 else if w.cps.toList.head? = some 48 ∧ 1 < w.cps.toList.length then -1 else ((NumText.digitsVal w.cps.toList : Nat) : Int)
structure RSt where
  B : Bk
  n : Int
  l : Str
def takeCue (s : RSt) (n up down : Int) (fr : Bool) : Option RSt := if n ≤ s.n then none else if putDue s.B (.int n) (.int up) (.int down) = 0 then some ⟨s.B ++ [⟨n, up, down, fr, []⟩], n, Str.empty⟩ else none
def takeWord (s : RSt) (l : Str) (v : Int) : Option RSt := if ¬ tlt s.l l then none else if askDue 0 s.B (.int s.n) (.str l) (.int v) = 0 then some ⟨setW s.B s.n l v, s.n, l⟩ else none
def takeWs (s : RSt) : List Str → Option RSt
  | [a, b] => takeWord s a (numW b)
  | [a, b, c, d] => if a = "cue" then takeCue s (numW b) (numW c) (numW d) false else none
  | [a, b, c, d, e] => if a = "cue" ∧ e = "fresh" then takeCue s (numW b) (numW c) (numW d) true else none
  | _ => none
def takeRow (s : RSt) (row : Str) : Option RSt := takeWs s (Txt.split row " ")
def takeAll : List Str → RSt → Option RSt
  | [], s => some s
  | r :: rs, s => (takeRow s r).bind (takeAll rs)
theorem takeAll_app : ∀ (xs ys : List Str) (s : RSt), takeAll (xs ++ ys) s = (takeAll xs s).bind (takeAll ys)
  | [], _, _ => rfl
  | x :: xs, ys, s => by
    show (takeRow s x).bind (takeAll (xs ++ ys)) = ((takeRow s x).bind (takeAll xs)).bind (takeAll ys)
    cases takeRow s x with
    | none => rfl
    | some s' => exact takeAll_app xs ys s'
def s0 : RSt := ⟨[], 0, Str.empty⟩
/-! ### numbers -/
theorem numL_head : ∀ (n : Nat), (TL.numL n).head? = some 48 → n = 0 := fun n => by
  induction n using Nat.strongRecOn with
  | _ n ih =>
    intro h
    by_cases e : n < 10
    · rw [TL.numL_lt e] at h
      have : 48 + n = 48 := Option.some.inj h
      omega
    · rw [TL.numL_step (by omega)] at h
      have ne := TL.numL_ne (n / 10)
      cases q : TL.numL (n / 10) with
      | nil => exact absurd q ne
      | cons c r =>
        rw [q] at h
        have h2 : (TL.numL (n / 10)).head? = some 48 := by rw [q]; exact h
        have := ih (n / 10) (by omega) h2
        omega
theorem tl_sI {i : Int} (h : 0 ≤ i) : (sI i).cps.toList = TL.numL i.toNat := by
  obtain ⟨n, rfl⟩ := Int.eq_ofNat_of_zero_le h
  exact TL.tl_num n
theorem fig_all {l : List Nat} (h : NumText.AllDigits l) : l.all isFig = true := by
  rw [List.all_eq_true]
  intro c hc
  have := h c hc
  unfold isFig
  rw [decide_eq_true this.1, decide_eq_true this.2]
  rfl
theorem numW_sI {i : Int} (h1 : 0 ≤ i) (h2 : i ≤ 999999) : numW (sI i) = i := by
  unfold numW
  rw [tl_sI h1]
  obtain ⟨n, rfl⟩ := Int.eq_ofNat_of_zero_le h1
  have e : ((n : Int)).toNat = n := Int.toNat_natCast n
  rw [e]
  have hn : n < 10 ^ 6 := by
    have : n ≤ 999999 := by omega
    have : (10 : Nat) ^ 6 = 1000000 := by decide
    omega
  have l1 := TL.numL_len (n := n) (k := 6) (by decide) hn
  have l0 : 1 ≤ (TL.numL n).length := List.length_pos_iff.mpr (TL.numL_ne n)
  rw [if_neg, if_neg, if_neg, TL.numL_val]
  · rintro ⟨a, b⟩
    have := numL_head n a
    rw [this, TL.numL_lt (by decide)] at b
    exact absurd b (by decide)
  · rw [fig_all (TL.numL_digits n)]
    decide
  · rw [decide_eq_false (by omega), decide_eq_false (by omega)]
    decide
theorem sI_free {i : Int} (h : 0 ≤ i) {s : Nat} (hs : s < 48 ∨ 57 < s) : s ∉ (sI i).cps.toList := by
  rw [tl_sI h]
  exact TL.numL_free hs
/-! ### a text is its rows -/
theorem join_nl : ∀ rows : List Str, Txt.join "" (rows.map nl) = Txt.join "\n" (rows ++ [Str.empty])
  | [] => by rw [TL.join_eq, TL.join_eq]; rfl
  | r :: rows => by
    have ih := join_nl rows
    rw [TL.join_eq, TL.join_eq] at ih ⊢
    rw [List.map_cons]
    cases rows with
    | nil =>
      show nl r = r ++ ("\n" : Str) ++ Str.empty
      rw [app_empty]
      rfl
    | cons q rows =>
      show nl r ++ ("" : Str) ++ Str.join "" ((q :: rows).map nl) = r ++ ("\n" : Str) ++ Str.join "\n" ((q :: rows) ++ [Str.empty])
      rw [ih, lit_empty, app_empty]
      rfl
theorem split_text {rows : List Str} (h : ∀ r ∈ rows, (10 : Nat) ∉ r.cps.toList) : Txt.split (Txt.join "" (rows.map nl)) "\n" = rows ++ [Str.empty] := by
  rw [join_nl]
  refine TL.split_join (s := 10) (S := []) (by decide) (by decide +kernel) (by simp) fun p hp => ?_
  rcases List.mem_append.mp hp with hp | hp
  · exact h p hp
  · rw [List.mem_singleton.mp hp]
    exact List.not_mem_nil
theorem split_row {ws : List Str} (hne : ws ≠ []) (h : ∀ r ∈ ws, (32 : Nat) ∉ r.cps.toList) : Txt.split (Txt.join " " ws) " " = ws :=
  TL.split_join (s := 32) (S := []) (by decide) (by decide +kernel) hne h
theorem lamp_free {l : Str} (h : LampOk l) {s : Nat} (hs : s < 97) : s ∉ l.cps.toList := fun z => by
  have := h.low s z
  omega
section
variable {ls : List Str} {B : Bk}
theorem split_head (g : Good ls B) {c : Cu} (hc : c ∈ B) : Txt.split (headS c) " " = [("cue" : Str), sI c.n, sI c.up, sI c.down] ++ if c.fr = true then [("fresh" : Str)] else [] := by
  have gc := g.cue c hc
  rw [← head_law]
  refine split_row (by simp) fun r hr => ?_
  rcases List.mem_append.mp hr with hr | hr
  · simp only [List.mem_cons, List.not_mem_nil, or_false] at hr
    rcases hr with rfl | rfl | rfl | rfl
    · decide
    · exact sI_free (by have := gc.n1; omega) (.inl (by decide))
    · exact sI_free gc.u1 (.inl (by decide))
    · exact sI_free gc.d1 (.inl (by decide))
  · split at hr
    · rw [List.mem_singleton.mp hr]; decide
    · cases hr
theorem split_word (g : Good ls B) {c : Cu} (hc : c ∈ B) {x : Str × Int} (hx : x ∈ sortW c.ws) : Txt.split (rowS x) " " = [x.1, sI x.2] := by
  obtain ⟨_, k, v1, v2⟩ := word_of g hc hx
  have e : rowS x = Txt.join " " [x.1, sI x.2] := by
    rw [TL.join_eq]
    show x.1 ++ ((" " : Str) ++ sI x.2) = x.1 ++ (" " : Str) ++ sI x.2
    rw [app_assoc]
  rw [e]
  refine split_row (by simp) fun r hr => ?_
  simp only [List.mem_cons, List.not_mem_nil, or_false] at hr
  rcases hr with rfl | rfl
  · exact lamp_free k (by decide)
  · exact sI_free v1 (.inl (by decide))
theorem mem_nl {c s : Nat} {a b : Str} : c ∈ (a ++ b).cps.toList ↔ c ∈ a.cps.toList ∨ c ∈ b.cps.toList := by
  rw [show (a ++ b).cps.toList = a.cps.toList ++ b.cps.toList from TL.tl_append a b, List.mem_append]
theorem rows_free (g : Good ls B) {r : Str} (hr : r ∈ textRows B) : (10 : Nat) ∉ r.cps.toList := by
  obtain ⟨c, hc, hs⟩ := List.mem_flatMap.mp hr
  have hc := asc_in hc
  have gc := g.cue c hc
  intro z
  rcases List.mem_cons.mp hs with rfl | hs
  · unfold headS at z
    simp only [mem_nl (s := 0)] at z
    rcases z with z | z | z | z | z | z | z | z
    · exact absurd z (by decide)
    · exact absurd z (by decide)
    · exact sI_free (by have := gc.n1; omega) (.inl (by decide)) z
    · exact absurd z (by decide)
    · exact sI_free gc.u1 (.inl (by decide)) z
    · exact absurd z (by decide)
    · exact sI_free gc.d1 (.inl (by decide)) z
    · split at z
      · exact absurd z (by decide)
      · exact absurd z (by decide)
  · obtain ⟨x, hx, rfl⟩ := List.mem_map.mp hs
    obtain ⟨_, k, v1, v2⟩ := word_of g hc hx
    unfold rowS at z
    simp only [mem_nl (s := 0)] at z
    rcases z with z | z | z
    · exact lamp_free k (by decide) z
    · exact absurd z (by decide)
    · exact sI_free v1 (.inl (by decide)) z
theorem split_textB (g : Good ls B) : Txt.split (textB B) "\n" = textRows B ++ [Str.empty] := split_text fun r hr => rows_free g hr
end
theorem take_flat {α : Type} {f : α → List Str} {xs : List α} {i : Nat} {c : α} (h : xs[i]? = some c) : (xs.take (i + 1)).flatMap f = (xs.take i).flatMap f ++ f c := by
  rw [List.take_add_one, h, List.flatMap_append]
  simp
/-! ### what is read of a book's text -/
def AllG (ls : List Str) : List Str → RSt → Prop
  | [], s => Good ls s.B
  | r :: rs, s => Good ls s.B ∧ ∀ s', takeRow s r = some s' → AllG ls rs s'
theorem AllG.head {ls : List Str} : ∀ {rs : List Str} {s : RSt}, AllG ls rs s → Good ls s.B
  | [], _, h => h
  | _ :: _, _, h => h.1
theorem AllG.app {ls ys : List Str} : ∀ {xs : List Str} {s : RSt}, AllG ls xs s → (∀ s', takeAll xs s = some s' → AllG ls ys s') → AllG ls (xs ++ ys) s
  | [], s, _, k => k s rfl
  | x :: xs, s, h, k => ⟨h.1, fun s' e => AllG.app (h.2 s' e) fun s2 e2 => k s2 (by
      show (takeRow s x).bind (takeAll xs) = _
      rw [e]
      exact e2)⟩
theorem due_tell {B : Bk} {n : Int} {l : Str} {v : Int} (hn : n ∈ B.map (·.n)) (hl : LampOk l) (v1 : 0 ≤ v) (v2 : v ≤ 100) : askDue 0 B (.int n) (.str l) (.int v) = 0 := by
  rw [due_in (by rw [inB_int]; exact decide_eq_true hn), if_neg (by omega), if_neg (fun z => by rw [lamp_of hl] at z; exact absurd z.2 (by decide)), if_neg (fun z => by omega), if_neg (fun z => by rw [numIn_of v1 v2] at z; exact absurd z.2 (by decide))]
theorem due_put {B : Bk} {n up down : Int} (n1 : 1 ≤ n) (n2 : n ≤ 999999) (no : n ∉ B.map (·.n)) (u1 : 0 ≤ up) (u2 : up ≤ 6000) (d1 : 0 ≤ down) (d2 : down ≤ 6000) (few : B.length < 100) : putDue B (.int n) (.int up) (.int down) = 0 := by
  unfold putDue
  rw [numIn_of n1 n2, numIn_of u1 u2, numIn_of d1 d2, inB_int, decide_eq_false no, if_neg (by decide), if_neg (by decide), if_neg (by decide), if_neg (by omega)]
section
variable {ls : List Str} {B : Bk}
theorem read_words (g : Good ls B) {c : Cu} (hc : c ∈ B) {X : Bk} (hX : c.n ∉ X.map (·.n)) (gX : ∀ j, Good ls (X ++ [{ c with ws := (sortW c.ws).take j }])) : ∀ (k j : Nat) (lam : Str), k = (sortW c.ws).length - j → j ≤ (sortW c.ws).length → (∀ x, (sortW c.ws)[j]? = some x → tlt lam x.1) →
    ∃ lam', takeAll (((sortW c.ws).drop j).map rowS) ⟨X ++ [{ c with ws := (sortW c.ws).take j }], c.n, lam⟩ = some ⟨X ++ [sortC c], c.n, lam'⟩ ∧ AllG ls (((sortW c.ws).drop j).map rowS) ⟨X ++ [{ c with ws := (sortW c.ws).take j }], c.n, lam⟩
  | 0, j, lam, hk, hj, _ => by
    have e : j = (sortW c.ws).length := by omega
    subst e
    rw [List.drop_length, List.take_length]
    have := gX (sortW c.ws).length
    rw [List.take_length] at this
    exact ⟨lam, rfl, this⟩
  | k + 1, j, lam, hk, hj, hl => by
    have lt : j < (sortW c.ws).length := by omega
    have hx : (sortW c.ws)[j]? = some (sortW c.ws)[j] := List.getElem?_eq_getElem lt
    obtain ⟨x, ex⟩ : ∃ x, x = (sortW c.ws)[j] := ⟨_, rfl⟩
    rw [← ex] at hx
    have hxm := List.mem_of_getElem? hx
    obtain ⟨_, lok, v1, v2⟩ := word_of g hc hxm
    have gc := g.cue _ hc
    have wis := words_is gc.nd
    have hd : (sortW c.ws).drop j = x :: (sortW c.ws).drop (j + 1) := by rw [List.drop_eq_getElem_cons lt, ← ex]
    have nk : x.1 ∉ ((sortW c.ws).take j).map (·.1) := fun z => by
      obtain ⟨y, hy, ey⟩ := List.mem_map.mp z
      obtain ⟨m, hm, hz⟩ := List.getElem_of_mem hy
      rw [List.length_take] at hm
      rw [List.getElem_take] at hz
      have nn := tlt_nd wis.up
      have h1 : ((sortW c.ws).map (·.1))[m]'(by rw [List.length_map]; omega) = ((sortW c.ws).map (·.1))[j]'(by rw [List.length_map]; omega) := by
        rw [List.getElem_map, List.getElem_map, hz, ← ex, ey]
      have := (List.getElem_inj nn).mp h1
      omega
    have step : takeRow ⟨X ++ [{ c with ws := (sortW c.ws).take j }], c.n, lam⟩ (rowS x) = some ⟨X ++ [{ c with ws := (sortW c.ws).take (j + 1) }], c.n, x.1⟩ := by
      unfold takeRow
      rw [split_word g hc hxm]
      show takeWord _ x.1 (numW (sI x.2)) = _
      rw [numW_sI v1 (by omega)]
      unfold takeWord
      rw [if_neg (fun z => z (hl x hx)), if_pos (due_tell (List.mem_map.mpr ⟨_, List.mem_append_right _ List.mem_cons_self, rfl⟩) lok v1 v2)]
      have e1 : setW (X ++ [{ c with ws := (sortW c.ws).take j }]) c.n x.1 x.2 = X ++ [{ c with ws := (sortW c.ws).take (j + 1) }] := by
        rw [setW_last (c := { c with ws := (sortW c.ws).take j }) hX, wput_new nk, List.take_add_one, hx]
        rfl
      rw [e1]
    obtain ⟨lam', r1, r2⟩ := read_words g hc hX gX k (j + 1) x.1 (by omega) (by omega) fun y hy => by
      have lt2 := (List.getElem?_eq_some_iff.mp hy).1
      have hp := List.pairwise_iff_getElem.mp wis.up j (j + 1) (by rw [List.length_map]; omega) (by rw [List.length_map]; omega) (by omega)
      rw [List.getElem_map, List.getElem_map, ← ex, (List.getElem?_eq_some_iff.mp hy).2] at hp
      exact hp
    refine ⟨lam', ?_, ?_⟩
    · rw [hd, List.map_cons]
      show (takeRow _ (rowS x)).bind _ = _
      rw [step]
      exact r1
    · rw [hd, List.map_cons]
      refine ⟨gX j, fun s' e => ?_⟩
      rw [step] at e
      cases e
      exact r2
theorem empty_lt {l : Str} (h : LampOk l) : tlt Str.empty l := by
  have h1 := h.pos
  have h2 : l.cps.toList ≠ [] := fun z => by
    have : l.length = 0 := by rw [TL.len_tl]; exact congrArg List.length z
    omega
  unfold tlt
  cases q : l.cps.toList with
  | nil => exact absurd q h2
  | cons a r => exact List.nil_lt_cons a r
theorem read_cue (g : Good ls B) {i : Nat} {c : Cu} (h : (asc B)[i]? = some c) {n : Int} {lam : Str} (hn : n < c.n) :
    ∃ lam', takeAll (rowsC c) ⟨((asc B).take i).map sortC, n, lam⟩ = some ⟨((asc B).take (i + 1)).map sortC, c.n, lam'⟩ ∧ AllG ls (rowsC c) ⟨((asc B).take i).map sortC, n, lam⟩ := by
  have hc := asc_in (List.mem_of_getElem? h)
  have gc := g.cue _ hc
  have nin := nin_pref g.nd h
  have g0 : Good ls (((asc B).take i).map sortC) := by
    have z := good_pref g h 0
    exact ⟨z.nd.sublist ((List.sublist_append_left _ _).map _), Nat.le_trans (List.sublist_append_left _ _).length_le z.len, fun d hd => z.cue d (List.mem_append_left _ hd), fun d hd => z.lam d (List.mem_append_left _ hd), z.ok, z.few⟩
  have few : (((asc B).take i).map sortC).length < 100 := by
    have z := (good_pref g h 0).len
    rw [List.length_append] at z
    have z : (((asc B).take i).map sortC).length + 1 ≤ 100 := z
    omega
  have step : takeRow ⟨((asc B).take i).map sortC, n, lam⟩ (headS c) = some ⟨((asc B).take i).map sortC ++ [{ c with ws := (sortW c.ws).take 0 }], c.n, Str.empty⟩ := by
    unfold takeRow
    rw [split_head g hc]
    have tc : ∀ fr, takeCue ⟨((asc B).take i).map sortC, n, lam⟩ c.n c.up c.down fr = some ⟨((asc B).take i).map sortC ++ [⟨c.n, c.up, c.down, fr, []⟩], c.n, Str.empty⟩ := fun fr => by
      unfold takeCue
      rw [if_neg (by show ¬ c.n ≤ n; omega), if_pos (due_put gc.n1 gc.n2 nin gc.u1 gc.u2 gc.d1 gc.d2 few)]
    have e1 := numW_sI (i := c.n) (by have := gc.n1; omega) gc.n2
    have e2 := numW_sI gc.u1 (by have := gc.u2; omega)
    have e3 := numW_sI gc.d1 (by have := gc.d2; omega)
    cases hf : c.fr with
    | true =>
      show (if (("cue" : Str) = "cue" ∧ ("fresh" : Str) = "fresh") then takeCue _ (numW (sI c.n)) (numW (sI c.up)) (numW (sI c.down)) true else none) = _
      rw [if_pos ⟨rfl, rfl⟩, e1, e2, e3, tc, ← hf]
      rfl
    | false =>
      show (if (("cue" : Str) = "cue") then takeCue _ (numW (sI c.n)) (numW (sI c.up)) (numW (sI c.down)) false else none) = _
      rw [if_pos rfl, e1, e2, e3, tc, ← hf]
      rfl
  obtain ⟨lam', r1, r2⟩ := read_words g hc nin (good_pref g h) (sortW c.ws).length 0 Str.empty (by omega) (Nat.zero_le _) fun x hx => empty_lt (word_of g hc (List.mem_of_getElem? hx)).2.1
  rw [List.drop_zero] at r1 r2
  refine ⟨lam', ?_, g0, fun s' e => ?_⟩
  · show (takeRow _ (headS c)).bind _ = _
    rw [step]
    show takeAll ((sortW c.ws).map rowS) _ = _
    rw [r1, take_next h, List.map_append]
    rfl
  · rw [step] at e
    cases e
    exact r2
/-- the whole text -/
theorem read_all (g : Good ls B) : ∀ (i : Nat), i ≤ (asc B).length → ∃ n lam, takeAll (((asc B).take i).flatMap rowsC) s0 = some ⟨((asc B).take i).map sortC, n, lam⟩ ∧ AllG ls (((asc B).take i).flatMap rowsC) s0 ∧ ∀ c, (asc B)[i]? = some c → n < c.n
  | 0, _ => by
    rw [List.take_zero]
    refine ⟨0, Str.empty, rfl, ?_, fun c hc => ?_⟩
    · show Good ls []
      exact ⟨List.nodup_nil, Nat.zero_le _, fun c hc => absurd hc List.not_mem_nil, fun c hc => absurd hc List.not_mem_nil, g.ok, g.few⟩
    · have := (g.cue _ (asc_in (List.mem_of_getElem? hc))).n1
      omega
  | i + 1, hi => by
    obtain ⟨n, lam, h1, h2, h3⟩ := read_all g i (by omega)
    have lt : i < (asc B).length := by omega
    have hc : (asc B)[i]? = some (asc B)[i] := List.getElem?_eq_getElem lt
    obtain ⟨lam', r1, r2⟩ := read_cue g hc (lam := lam) (h3 _ hc)
    rw [take_flat hc]
    refine ⟨(asc B)[i].n, lam', ?_, h2.app fun s' e => ?_, fun c2 hc2 => ?_⟩
    · rw [takeAll_app, h1, Option.bind_some, r1]
    · rw [h1] at e
      rw [← Option.some.inj e]
      exact r2
    · have lt2 := (List.getElem?_eq_some_iff.mp hc2).1
      have := List.pairwise_iff_getElem.mp (asc_strict g.nd) i (i + 1) lt lt2 (by omega)
      rw [(List.getElem?_eq_some_iff.mp hc2).2] at this
      exact this
theorem read_text (g : Good ls B) : ∃ n lam, takeAll (textRows B) s0 = some ⟨(asc B).map sortC, n, lam⟩ ∧ AllG ls (textRows B) s0 := by
  obtain ⟨n, lam, h1, h2, _⟩ := read_all g (asc B).length (Nat.le_refl _)
  rw [List.take_length] at h1 h2
  exact ⟨n, lam, h1, h2⟩
theorem asc_map {f : Cu → Cu} (nd : (B.map (·.n)).Nodup) (hf : ∀ c, (f c).n = c.n) : asc (B.map f) = (asc B).map f := by
  have nd2 : ((B.map f).map (·.n)).Nodup := by
    rw [List.map_map, show ((fun c : Cu => c.n) ∘ f) = fun c : Cu => c.n from funext hf]
    exact nd
  have e := desc_map nd hf
  rw [desc_asc nd, desc_asc nd2, List.map_reverse] at e
  exact List.reverse_inj.mp e
theorem sort_sort {ws : List (Str × Int)} (nd : (ws.map (·.1)).Nodup) : sortW (sortW ws) = sortW ws := by
  have w := words_is nd
  refine words_uniq (words_is (tlt_nd w.up)) ⟨w.up, fun l v => ⟨fun h => wlook_of (tlt_nd w.up) h, fun h => wlook_mem h⟩⟩
/-- the book that is read writes the same text -/
theorem text_sort (g : Good ls B) : textB ((asc B).map sortC) = textB B := by
  have nda := (good_asc g).nd
  unfold textB textRows
  rw [asc_map (f := sortC) nda (fun _ => rfl), asc_asc g.nd, List.flatMap_map]
  have go : ∀ X : Bk, (∀ c ∈ X, c ∈ B) → X.flatMap (fun c => rowsC (sortC c)) = X.flatMap rowsC := fun X => by
    induction X with
    | nil => exact fun _ => rfl
    | cons c r ih =>
      intro h
      rw [List.flatMap_cons, List.flatMap_cons, ih fun d hd => h d (List.mem_cons_of_mem _ hd)]
      congr 1
      show headS (sortC c) :: (sortW (sortW c.ws)).map rowS = rowsC c
      rw [sort_sort (g.cue c (h c List.mem_cons_self)).nd]
      rfl
  rw [go _ fun c hc => asc_in hc]
theorem like_sort (g : Good ls B) : LikeB ((asc B).map sortC) B := ⟨B.map sortC, (asc_perm B).map _, sort_same (good_wn g)⟩
end
end RD

/-! the reader of a text in the heap -/
namespace RD
open PySem PySem.Spec PyProof.Rows L2 Evl HB GX MB HW HI HM PI MC HJ HG PS PT MD MX RP RQ RM RL RS RT RX RY RZ RA SP SQ TX
/-- a statement that is never come to -/
theorem ps_dead {X : Cx} {st : Stmt} : PS X st (fun _ _ _ => False) := ⟨fun pins s σ H D I h => h.elim⟩
theorem zero_le_ (c : Nat) : (!decide ((⟨#[c]⟩ : Str).cps.toList < ("0" : Str).cps.toList)) = decide (48 ≤ c) := by
  have e : ((⟨#[c]⟩ : Str).cps.toList < ("0" : Str).cps.toList) ↔ c < 48 := by
    show ([c] < [48]) ↔ _
    rw [List.cons_lt_cons_iff]
    exact ⟨fun h => h.elim id fun z => absurd z.2 (List.not_lt_nil _), .inl⟩
  by_cases h : c < 48
  · rw [decide_eq_true (e.mpr h), decide_eq_false (by omega)]; rfl
  · rw [decide_eq_false (fun z => h (e.mp z)), decide_eq_true (by omega)]; rfl
theorem le_nine (c : Nat) : (!decide (("9" : Str).cps.toList < (⟨#[c]⟩ : Str).cps.toList)) = decide (c ≤ 57) := by
  have e : (("9" : Str).cps.toList < (⟨#[c]⟩ : Str).cps.toList) ↔ 57 < c := by
    show ([57] < [c]) ↔ _
    rw [List.cons_lt_cons_iff]
    exact ⟨fun h => h.elim id fun z => absurd z.2 (List.not_lt_nil _), .inl⟩
  by_cases h : 57 < c
  · rw [decide_eq_true (e.mpr h), decide_eq_false (by omega)]; rfl
  · rw [decide_eq_false (fun z => h (e.mp z)), decide_eq_true (by omega)]; rfl
/-! ### parts are no longer than the whole -/
theorem spl_len (S : List Nat) : ∀ (l : List Nat) (k : Nat) (acc : List Nat), ∀ p ∈ TL.spl S k acc l, p.length ≤ acc.length + l.length
  | [], k, acc, p, h => by
    rw [TL.spl_nil] at h
    rw [List.mem_singleton.mp h]
    omega
  | c :: r, 0, acc, p, h => by
    rw [List.length_cons]
    cases hp : TL.pre S (c :: r) with
    | true =>
      rw [TL.spl_hit hp] at h
      rcases List.mem_cons.mp h with rfl | h
      · omega
      · have := spl_len S r (S.length - 1) [] p h
        rw [List.length_nil] at this
        omega
    | false =>
      rw [TL.spl_miss hp] at h
      have := spl_len S r 0 (acc ++ [c]) p h
      rw [List.length_append] at this
      have e : [c].length = 1 := rfl
      omega
  | c :: r, k + 1, acc, p, h => by
    rw [List.length_cons]
    have := spl_len S r k acc p h
    omega
theorem split_len {x y p : Str} {s : Nat} (ey : TL.tl y = [s]) (hk : y.cps.all (· < 256) = true) (h : p ∈ Txt.split x y) : p.length ≤ x.length := by
  have e := TL.split_spl x y (by rw [ey]; simp) (TL.kind_ok hk)
  have hm : TL.tl p ∈ TL.spl (TL.tl y) 0 [] (TL.tl x) := by rw [← e]; exact List.mem_map.mpr ⟨p, h, rfl⟩
  have := spl_len _ _ _ _ _ hm
  rw [TL.len_tl, TL.len_tl]
  rw [List.length_nil] at this
  omega
theorem split_sp {x p : Str} (h : p ∈ Txt.split x " ") : p.length ≤ x.length := split_len (s := 32) (by decide) (by decide +kernel) h
theorem split_nl {x p : Str} (h : p ∈ Txt.split x "\n") : p.length ≤ x.length := split_len (s := 10) (by decide) (by decide +kernel) h
/-! ### tell, done or refused -/
def spTellX (K : PySem.W.Frag) (At : AtT) (e : Nat → Addr) : Sp := fun vs H Q E => ∃ p x y u ls B fp tx ty tu, vs = [.ref p, x, y, u] ∧ At H p ls B fp ∧ TyB K H x tx ∧ TyB K H y ty ∧ TyB K H u tu ∧ TxtOk y ∧ (askDue 0 B x y u ≠ 0 → RaiseV (e (askDue 0 B x y u)) H E) ∧
  (askDue 0 B x y u = 0 → ∀ n l v, x = .int n → y = .str l → u = .int v → l ∈ ls ∧ Deed At p ls fp (setW B n l v) H Q)
section
variable {K : PySem.W.Frag} {C Cc Pt eCue eLamp eLevel : Addr} {tb : Addr → Prop} {full more : Prop}
theorem tellX_R (htb : tb Pt) (vs : List V) (H : Hp) (Q : VK) (E : XK) (h : spTellX K (playAt C Cc tb full more) (askE eCue eLamp eLevel) vs H Q E) : spTellR K Pt C Cc eCue eLamp eLevel vs H Q E := by
  obtain ⟨p, x, y, u, ls, B, fp, tx, ty, tu, e, ⟨d, R, raw, sm, G, tabs, efp⟩, hx, hy, hu, ht, q1, q0⟩ := h
  refine ⟨p, d, R, ls, x, tx, y, ty, u, tu, e, raw, bound_of raw sm G, hx, hy, ht, hu, tabs _ htb, ?_⟩
  by_cases hi : inB B x = false
  · rw [due_cue hi] at q1
    exact .inr (.inl ⟨in_miss sm hi, q1 (by decide)⟩)
  have hi := b_false hi
  obtain ⟨r, hit⟩ := in_hit sm hi
  rw [due_in hi, if_neg (by omega)] at q1 q0
  by_cases hl : lampIs y = false
  · rw [if_pos ⟨by omega, hl⟩] at q1
    exact .inr (.inr (.inl ⟨⟨r, hit⟩, hl, q1 (by decide)⟩))
  rw [if_neg (fun z => hl z.2), if_neg (fun z => by omega)] at q1 q0
  by_cases hn : numIn u 0 100 = false
  · rw [if_pos ⟨by decide, hn⟩] at q1
    exact .inr (.inr (.inr ⟨⟨r, hit⟩, b_false hl, hn, q1 (by decide)⟩))
  rw [if_neg (fun z => hn z.2)] at q0
  obtain ⟨l, rfl, lok⟩ := lamp_yes (b_false hl)
  obtain ⟨v, rfl, v1, v2⟩ := numIn_yes (b_false hn)
  obtain ⟨hr, rfl⟩ := hit
  obtain ⟨hls, q⟩ := q0 rfl r.c.n l v rfl rfl rfl
  refine .inl ⟨r, l, v, ⟨hr, rfl⟩, rfl, lok, rfl, v1, v2, fun H1 ex => ?_⟩
  obtain ⟨a1, a2⟩ := at_deed (full := full) (more := more) raw tabs efp ((raw.ex ex).modw hr (fun ws => wput ws l v) (wput_keys _ _ _ (raw.wn r hr))) (mv_mod hr ex (fun ws => wput ws l v) _) (B' := setW B r.c.n l v) (by
    rw [pk_mod, setW_mod]
    exact sm.mod r.c.n _ fun ws us h j => by rw [wlook_wput, wlook_wput, h]) (good_set G r.c.n hls v1 v2)
  exact q _ _ a1 a2
end
/-- put and tell, done or refused -/
structure RdU (P : Program) (w : World) (K : PySem.W.Frag) (mg : Str → Option Value) (base : Heap) (C : Addr) (At : AtT) (e1 e2 : Nat → Addr) : Prop where
  p4 : MOk P w K mg base C "put" 3 ["self", "number", "up", "down", "fresh"] [] (spPutX K At e1)
  tell : MOk P w K mg base C "tell" 4 ["self", "number", "lamp", "level"] [] (spTellX K At e2)
/-! ### the reader -/
def rfs (p : Addr) (n : Int) (l : Str) : List (Str × V) := [("play", .ref p), ("number", .int n), ("lamp", .str l)]
theorem rfs_play (p : Addr) (n : Int) (l : Str) : (rfs p n l).lookup ("play" : Str) = some (.ref p) := lk_eq rfl
theorem rfs_num (p : Addr) (n : Int) (l : Str) : (rfs p n l).lookup ("number" : Str) = some (.int n) := (lk_ne (by decide +kernel)).trans (lk_eq rfl)
theorem rfs_lamp (p : Addr) (n : Int) (l : Str) : (rfs p n l).lookup ("lamp" : Str) = some (.str l) := (lk_ne (by decide +kernel)).trans ((lk_ne (by decide +kernel)).trans (lk_eq rfl))
theorem rfs_no (p : Addr) (n : Int) (l : Str) {m : Str} (h1 : ¬ m = "play") (h2 : ¬ m = "number") (h3 : ¬ m = "lamp") : (rfs p n l).lookup m = none := (lk_ne h1).trans ((lk_ne h2).trans ((lk_ne h3).trans rfl))
theorem rfs_set (p : Addr) (n n' : Int) (l : Str) : putF "number" (.int n') (rfs p n l) = rfs p n' l := by
  show (if ("play" : Str) = "number" then _ else _ :: (if ("number" : Str) = "number" then _ else _)) = _
  rw [if_neg (by decide +kernel), if_pos rfl]
  rfl
theorem rfs_setL (p : Addr) (n : Int) (l l' : Str) : putF "lamp" (.str l') (rfs p n l) = rfs p n l' := by
  show (if ("play" : Str) = "lamp" then _ else _ :: (if ("number" : Str) = "lamp" then _ else _ :: (if ("lamp" : Str) = "lamp" then _ else _))) = _
  rw [if_neg (by decide +kernel), if_neg (by decide +kernel), if_pos rfl]
  rfl
theorem rfs_mk (p : Addr) : putF "lamp" (.str Str.empty) (putF "number" (.int 0) (putF "play" (.ref p) [])) = rfs p 0 Str.empty := by
  have e1 : putF "play" (.ref p) [] = ([("play", V.ref p)] : List (Str × V)) := rfl
  have e2 : putF "number" (.int 0) ([("play", V.ref p)] : List (Str × V)) = ([("play", V.ref p), ("number", .int 0)] : List (Str × V)) := putF_new ((lk_ne (by decide +kernel)).trans rfl)
  rw [e1, e2]
  exact putF_new ((lk_ne (by decide +kernel)).trans ((lk_ne (by decide +kernel)).trans rfl))
/-- a reader at r, its play at p -/
structure Rdr (Cr : Addr) (At : AtT) (H : Hp) (r p : Addr) (ls : List Str) (s : RSt) (fp : Addr → Prop) : Prop where
  ob : ∃ dx, H r = some (.ins Cr dx (rfs p s.n s.l))
  pl : At H p ls s.B fp
  nr : ¬ (fp r ∨ At.tb r)
  inv : (s.n = 0 ∧ s.B = []) ∨ s.n ∈ s.B.map (·.n)
section
variable {P : Program} {w : World} {K : PySem.W.Frag} {mg : Str → Option Value} {base : Heap} {C Cr : Addr} {At : AtT} {H H' : Hp} {r p : Addr} {ls : List Str} {s : RSt} {fp : Addr → Prop}
theorem Rdr.ex (L : Pl P w K mg base C At) (h : Rdr Cr At H r p ls s fp) (e : Ex H H') : Rdr Cr At H' r p ls s fp := by
  obtain ⟨dx, ob⟩ := h.ob
  exact ⟨⟨dx, e _ _ ob⟩, L.ex h.pl e, h.nr, h.inv⟩
/-- its places -/
def RJ (r : Addr) (fp : Addr → Prop) (b : Addr) : Prop := b = r ∨ fp b
end
section
variable {σ : L2.St} {H H' : Hp} {K : PySem.W.Frag} {ta te : TE}
theorem el_split {a b : Str} (h : Ev ta σ H (.str a)) (h2 : Ev te σ H (.str b)) (hb : (b.length == 0) = false) (hz : a.length + 2 ≤ sizeLine) :
    EvL (tM1 (fun x xs H Q => ∃ a b, x = .str a ∧ xs = [.str b] ∧ (b.length == 0) = false ∧ a.length + 2 ≤ sizeLine ∧ rNewStrs (Txt.split a b) H Q) ta te) σ H ((Txt.split a b).map V.str) := fun H1 e Q q =>
  h H1 e _ fun H2 e2 => ⟨⟨a, rfl⟩, h2 H2 (e.trans e2) _ fun H3 e3 => ⟨a, b, rfl, rfl, hb, hz, fun p hp => q p _ (fresh_back (e2.trans e3) hp) ((e2.trans e3).trans (Ex.new hp)) upd_same⟩⟩
theorem rv_leS {a b : Str} : RV (fun x y H Q => ∃ i j : Str, x = .str i ∧ y = .str j ∧ Q (.bl (!decide (j.cps.toList < i.cps.toList))) H) (.str a) (.str b) H (.bl (!decide (tlt b a))) := fun H1 _ _ q => ⟨a, b, rfl, rfl, q H1 (Ex.refl H1)⟩
end
/-- _number_of -/
def RNumOf (Pt : Addr) (H : Hp) (vs : List V) (z : V) : Prop := ∃ w : Str, vs = [.str w] ∧ w.length ≤ sizeLine ∧ TabX H Pt ∧ z = .int (numW w)
theorem fig_digits {l : List Nat} (h : l.all isFig = true) : NumText.AllDigits l := fun c hc => by
  have := List.all_eq_true.mp h c hc
  unfold isFig at this
  obtain ⟨a, b⟩ := Bool.and_eq_true_iff.mp this
  exact ⟨of_decide_eq_true a, of_decide_eq_true b⟩
theorem ev_allX {σ : L2.St} {H : Hp} {te : TE} {P : Addr} {pb : Nat → Bool} {a : Str} (h : Ev te σ H (.str a)) (tab : TabX H P) : Ev (tAllX P pb te) σ H (.bl (a.cps.toList.all pb)) := fun H1 e Q q => h H1 e _ fun H2 e2 => ⟨a, rfl, (e.trans e2) _ _ tab, q H2 e2⟩
section
variable {σ : L2.St} {H H' : Hp} {K : PySem.W.Frag} {to te tv ta : TE} {t : TA} {C Cr : Addr} {m : Str} {ds vs : List V} {E : L2.St → XK} {a dx : Addr} {fs : List (Str × V)} {D : Ends} {tu tz : TS}
theorem t_moS {sp : Sp} {Q : VK} (ho : Ev to σ H (.ref a)) (ha : H a = some (.ins C dx fs)) (n : fs.lookup m = none) (hv : EvA t σ H vs) (hs : ∀ H1, Ex H H1 → sp (.ref a :: (vs ++ ds)) H1 Q (E σ)) : tMethS C m sp ds E to t σ H Q :=
  ho H (Ex.refl H) _ fun H2 e2 => ⟨a, dx, fs, rfl, e2 _ _ ha, n, hv H2 e2 _ fun H3 e3 => hs H3 (e2.trans e3)⟩
theorem q_tryQ {t : TS} (h : t { D with nx := tz D } σ H) : tSeq t tz D σ H := h
end
def spReaderI (Cr : Addr) (At : AtT) : Sp := fun vs H Q _ => ∃ x dx ls, vs = [.ref x] ∧ H x = some (.ins Cr dx []) ∧ (∀ b, At.tb b → TabX H b) ∧ (∀ l ∈ ls, LampOk l) ∧ ls.length < 64 ∧
  ∀ H1 p fp, Rdr Cr At H1 x p ls s0 fp → (∀ b, fp b → H b = none) → (∀ b o, H b = some o → b ≠ x → H1 b = some o) → Q .non H1
/-- what a row that is taken leaves -/
def DoneT (Cr : Addr) (At : AtT) (r p : Addr) (ls : List Str) (fp : Addr → Prop) (o : Option RSt) (H : Hp) (Q : VK) : Prop :=
  (∀ s', o = some s' → Good ls s'.B ∧ ∀ H' fp', Rdr Cr At H' r p ls s' fp' → Mv (RJ r fp) H (RJ r fp') H' → Q (.bl true) H') ∧ (o = none → RetV (.bl false) H Q)
def spTakesCue (K : PySem.W.Frag) (Cr : Addr) (At : AtT) : Sp := fun vs H Q _ => ∃ (r wa : Addr) (fr : Bool) (p : Addr) (ls : List Str) (s : RSt) (fp : Addr → Prop) (ws : List Str) (b c d : Str), vs = [.ref r, .ref wa, .bl fr] ∧ Rdr Cr At H r p ls s fp ∧ SqL K H wa (ws.map V.str) ∧ atI (ws.map V.str) 1 = some (.str b) ∧ atI (ws.map V.str) 2 = some (.str c) ∧ atI (ws.map V.str) 3 = some (.str d) ∧
  b.length ≤ sizeLine ∧ c.length ≤ sizeLine ∧ d.length ≤ sizeLine ∧ DoneT Cr At r p ls fp (takeCue s (numW b) (numW c) (numW d) fr) H Q
def spTakesWord (Cr : Addr) (At : AtT) : Sp := fun vs H Q _ => ∃ (r : Addr) (l : Str) (v : Int) (p : Addr) (ls : List Str) (s : RSt) (fp : Addr → Prop), vs = [.ref r, .str l, .int v] ∧ Rdr Cr At H r p ls s fp ∧ l.length ≤ sizeLine ∧ DoneT Cr At r p ls fp (takeWord s l v) H Q
def spTakes (Cr : Addr) (At : AtT) : Sp := fun vs H Q _ => ∃ (r : Addr) (row : Str) (p : Addr) (ls : List Str) (s : RSt) (fp : Addr → Prop), vs = [.ref r, .str row] ∧ Rdr Cr At H r p ls s fp ∧ row.length + 2 ≤ sizeLine ∧ DoneT Cr At r p ls fp (takeRow s row) H Q
/-- the reader's own fields set -/
theorem Rdr.set {P : Program} {w : World} {K : PySem.W.Frag} {mg : Str → Option Value} {base : Heap} {C Cr : Addr} {At : AtT} (L : Pl P w K mg base C At) {H1 H2 : Hp} {r p : Addr} {ls : List Str} {s : RSt} {fp : Addr → Prop} (h : Rdr Cr At H1 r p ls s fp) (e : Ex H1 H2) {dx : Addr} (n : Int) (l : Str) (i : (n = 0 ∧ s.B = []) ∨ n ∈ s.B.map (·.n)) :
    Rdr Cr At (upd H2 r (.ins Cr dx (rfs p n l))) r p ls ⟨s.B, n, l⟩ fp := ⟨⟨dx, upd_same⟩, L.off (L.ex h.pl e) h.nr _, h.nr, i⟩
/-- moves of the play, then of the reader's fields -/
theorem mv_reader {fp fp' : Addr → Prop} {r : Addr} {H H1 H2 H3 : Hp} (e1 : Ex H H1) (v : Mv fp H1 fp' H2) (e2 : Ex H2 H3) (u : HO) : Mv (RJ r fp) H (RJ r fp') (upd H3 r u) :=
  ⟨fun b x hb n => by
    rw [upd_ne fun z => n (.inl z)]
    exact e2 _ _ (v.keep b x (e1 _ _ hb) fun z => n (.inr z)), fun b h => h.elim (fun z => .inl (.inl z)) fun z => (v.grow b z).elim (fun z => .inl (.inr z)) fun z => .inr (fresh_back e1 z)⟩
theorem s_ifNotM {σ : L2.St} {H : Hp} {to : TE} {t : TA} {C : Addr} {m : Str} {ds vs : List V} {E : XK} {a dx : Addr} {fs : List (Str × V)} {D : Ends} {tu : TS} {sp : Sp} (ho : Ev to σ H (.ref a)) (ha : H a = some (.ins C dx fs)) (n : fs.lookup m = none) (hv : EvA t σ H vs)
    (hs : ∀ H1, Ex H H1 → sp (.ref a :: (vs ++ ds)) H1 (fun v H2 => ∃ c, v = .bl c ∧ if (!c) = true then tu D σ H2 else tNext D σ H2) E) : tIfS (tNot (tB (tMeth C m sp ds E to t))) tu tNext D σ H := t_mo ho ha n hv hs
/-- a text that is read whole -/
def spRead (At : AtT) : Sp := fun vs H Q _ => ∃ (t : Str) (rs ls : List Str) (s' : RSt), vs = [.str t] ∧ (∀ b, At.tb b → TabX H b) ∧ (∀ l ∈ ls, LampOk l) ∧ ls.length < 64 ∧ t.length ≤ 1000000 ∧ rs.length ≤ 100000 ∧ Txt.split t "\n" = rs ++ [Str.empty] ∧ AllG ls rs s0 ∧ takeAll rs s0 = some s' ∧
  ∀ p fp H', At H' p ls s'.B fp → (∀ b, fp b → H b = none) → Ex H H' → Q (.ref p) H'
theorem join_len : ∀ ys : List Str, (Txt.join "" ys).length = (ys.map (·.length)).sum
  | [] => rfl
  | [a] => by
    rw [TL.join_eq]
    show a.length = a.length + 0
    omega
  | a :: b :: r => by
    have ih := join_len (b :: r)
    rw [TL.join_eq] at ih ⊢
    show (a ++ ("" : Str) ++ Str.join "" (b :: r)).length = _
    rw [lit_empty, app_empty, len_app, ← lit_empty, ih]
    simp only [List.map_cons, List.sum_cons]
theorem textB_len {ls : List Str} {B : Bk} (g : Good ls B) : (textB B).length ≤ 262400 := by
  unfold textB
  rw [join_len]
  have h1 := sum_len 41 ((textRows B).map nl) fun s hs => by
    obtain ⟨r, hr, rfl⟩ := List.mem_map.mp hs
    have := row_len g hr
    have l2 : ("\n" : Str).length = 1 := by decide
    unfold nl
    rw [len_app]
    omega
  have h2 := textRows_len g
  rw [List.length_map] at h1
  have : (textRows B).length * 41 ≤ 6400 * 41 := Nat.mul_le_mul_right _ h2
  omega
theorem asc_same {A B : Bk} (h : A.map (·.n) = B.map (·.n)) : (asc A).map (·.n) = (asc B).map (·.n) := by
  refine asc_nums ?_ (List.pairwise_map.mpr (asc_sorted A))
  rw [← h]
  exact (asc_perm A).map _
end RD

/-! errors with a field of their own: made, kept, asked -/
namespace RK
open PySem PySem.Spec PyProof.Rows PySem.Calls L2 Evl HB RX
/-! ### isinstance of a kept error that has its dict -/
section
open PySem.W
variable {prog : Program} {w : World} {A : Around} {E : Value → Shared → Prop} {s : Shared} {K : Frag} {x D : Addr} {ox oo : Obj}
theorem kin_classD {Q : Option Value → Shared → Prop} (hga : findIn K (.ref D) "__getattribute__" = some (some (.builtin "BaseException.__getattribute__"))) (hgt : findIn K (.ref D) "__getattr__" = some none) (hsub : subIn K (.ref D) (.type "BaseException") = some true)
    (hdct : hasDictIn K D = true) (ha : findIn K (.ref D) "__class__" = some (some (.builtin "object.__class__")))
    (hn : specialIn K (.builtin "object.__class__") "__get__" = some (some (.builtin "getset_descriptor.__get__"))) (htk : takesIn K (.builtin "object.__class__") = some true) (hm : mroIn K D (.type "object") = some true)
    (X : K.In s.heap) (I : InstAt s.heap x ox D (some oo)) (h : Q (some (.ref D)) { s with toks := s.toks + 1 }) : wpAny (model prog w) A (getAttr? (.ref x) "__class__") Q E s := by
  have hf : findObj K D (some oo) "__class__" = some (.bind (.builtin "getset_descriptor.__get__") (.builtin "object.__class__")) := findObj_data (by obtain ⟨cd, hc, _⟩ := any_some hdct; rw [hc]; rfl) ha hn htk
  obtain ⟨hp, g, d, t, os⟩ := s
  have L0 := I.type (M := model prog w)
  have L1 := looks_findIn (M := model prog w) X hga
  have L2 := looks_findIn (M := model prog w) X hgt
  have L3 := looks_find (M := model prog w) X I hf
  have sub : Looks (model prog w) hp (isInstance (.ref x) (.type "BaseException")) true := L0.andThen (looks_subIn X hsub)
  have hx0 : (false && onTheHeap (Value.builtin "BaseException.__getattribute__")) = false := rfl
  have hx2 : (Value.builtin "BaseException.__getattribute__" == Value.builtin "object.__getattribute__") = false := by decide +kernel
  have hx1 : (onTheHeap (Value.ref D) && Value.builtin "BaseException.__getattribute__" == Value.builtin "object.__getattribute__") = false := by rw [hx2]; rfl
  unfold getAttr? getAttrBy? getAttrBy
  refine wpAny_bind (wpAny_mkText (wpAny_bind (wpAny_attempt (wpAny_holding (wpAny_bind (L0.at (wpAny_bind (L1.at ?_))))))))
  show wpAny _ _ (if (onTheHeap (Value.ref D) && Value.builtin "BaseException.__getattribute__" == Value.builtin "object.__getattribute__") = true then _ else _) _ _ _
  rw [hx1, if_neg Bool.false_ne_true]
  unfold getAttrByItsOwn hookBefore
  refine wpAny_bind ?_
  rw [if_pos (show onTheHeap (Value.ref D) = true from rfl)]
  refine L2.at ?_
  refine wpAny_bind (wpAny_attempt (wpAny_holding ?_))
  unfold callGetattribute
  rw [hx0, if_neg Bool.false_ne_true]
  unfold boundAndCalled
  rw [PySem.F.excAttr_ValueError.ga.bind (.ref x)]
  refine wpAny_bind (wpAny_pure ?_)
  show wpAny _ _ (call (.builtin "BaseException.__getattribute__") [.ref x, .str "__class__" t]) _ _ _
  refine wpAny_call (codeAny_call_builtin PySem.F.excAttr_ValueError.ga.plain PySem.F.entry_bexc_ga ?_)
  refine @check_slot (model prog w) _ _ ⟨hp, g, d, t + 1, os⟩ "BaseException.__getattribute__" "BaseException" "__getattribute__" (.ref x) [.str "__class__" t] [] _ (by decide +kernel) (by decide +kernel) sub (PySem.F.args_bexc_ga (.ref x) (.str "__class__" t)) ?_
  unfold Builtin.«object.__getattribute__»
  refine wpAny_bind (wpAny_of_eq (a := ((Value.ref x : Value), [Value.str "__class__" t])) (by first | rfl | (simp only [slotArgs]; rfl)) ?_)
  refine wpAny_bind (wpAny_pure (wpAny_bind (L0.at (wpAny_bind (L3.at ?_)))))
  show wpAny _ _ (holding [Value.builtin "object.__class__"] (call (.builtin "getset_descriptor.__get__") [.builtin "object.__class__", .ref x, .ref D]) >>= ret) _ _ _
  refine wpAny_bind (wpAny_holding (wpAny_call (class_get (s := ⟨hp, g, d, t + 1, os⟩) (ox := ox) (od := some oo) X I hm ?_)))
  refine wpAny_pure ?_
  show wpAny _ _ (handedOut (.ref D)) _ _ _
  rw [handedOut_of (v := .ref D) rfl]
  first
    | exact wpAny_pure (wpAny_pure h)
    | exact wpAny_pure h
    | exact wpAny_pure (wpAny_bind (wpAny_pure (wpAny_pure h)))
theorem kitx_excD (hga : findIn K (.ref D) "__getattribute__" = some (some (.builtin "BaseException.__getattribute__"))) (hgt : findIn K (.ref D) "__getattr__" = some none) (hsub : subIn K (.ref D) (.type "BaseException") = some true) (hdct : hasDictIn K D = true) (ha : findIn K (.ref D) "__class__" = some (some (.builtin "object.__class__")))
    (hn : specialIn K (.builtin "object.__class__") "__get__" = some (some (.builtin "getset_descriptor.__get__"))) (htk : takesIn K (.builtin "object.__class__") = some true) (hm : mroIn K D (.type "object") = some true) :
    KitX K (.ref x) (.ref D) (fun h => InstAt h x ox D (some oo)) where
  ty := fun _ _ _ I => I.type
  it := fun _ _ X _ => by
    obtain ⟨cdD, hcD, _⟩ := any_some hdct
    unfold clsIn at hcD
    split at hcD
    · rename_i c' d' cd' sl' ho
      intro A' Q' E' s' k q
      unfold isType loadHead
      exact wpAny_bind (wpAny_loadPart (k _ _ (X _ _ ho)) (wpAny_pure q))
    · cases hcD
  ne := fun h tp dd its n sl X htp => by
    obtain ⟨cdD, hcD, _⟩ := any_some hdct
    refine Bool.eq_false_iff.mpr fun q => ?_
    have e : D = tp := Value.ref.inj (beq_iff_eq.mp q)
    subst e
    unfold clsIn at hcD
    split at hcD
    · rename_i c' d' cd' sl' ho
      have z := (X _ _ ho).symm.trans htp
      cases z
    · cases hcD
  ca := fun X I k => kin_classD hga hgt hsub hdct ha hn htk hm X I k
end
/-- isinstance(e, c), e a kept error with its dict -/
def rIsY (K : PySem.W.Frag) : List V → Hp → VK → Prop := fun xs H Q => ∃ (D a dd : Addr) (fs : List (Str × V)) (c : V) (cv : Value) (b : Bool), xs = [.ref a, c] ∧ H a = some (ExV (.ref D) (some dd) a) ∧ H dd = some (.xd fs) ∧ ExcC K D ∧ (∀ u, RelV c u → u = cv) ∧ PySem.W.kitOne K (.ref D) cv = some b ∧ Q (.bl b) H
theorem inst_kept {X : Cx} {pins : List (Addr × Obj)} {σ : L2.St} {H : Hp} {s : Shared} {D a dd : Addr} {fs : List (Str × V)} (I : Inv X pins σ H s) (ha : H a = some (ExV (.ref D) (some dd) a)) (hd : H dd = some (.xd fs)) :
    ∃ oe od mA, PySem.W.InstAt s.heap a oe D (some od) ∧ s.heap.Ns1 dd mA ∧ (∀ f, RelO (fs.lookup f) (mA f)) ∧ ∀ n, PySem.W.lookIn n od = some (mA n) := by
  obtain ⟨⟨oe, vs, hget, hz, hv⟩, _⟩ := I.hok a _ ha
  have hx : ObjOk X.prog X.w H s.heap dd (.xd fs) := I.hok dd _ hd
  obtain ⟨mA, hns, hr⟩ := hx
  obtain ⟨od, ho, hl⟩ := lookIn_ns hns
  exact ⟨oe, od, mA, ⟨hget, hz.1, by unfold PySem.W.notCls; rw [hv] <;> rfl, by rw [hz.2]; exact ho⟩, hns, hr, hl⟩
theorem call_isY {X : Cx} : CallR X (.builtin "isinstance") (rIsY X.K) := by
  intro pins s σ H xs us Q I r h
  obtain ⟨D, a, dd, fs, c, cv, b, rfl, ha, hd, C, hcv, e, q⟩ := h
  obtain ⟨u1, u2, rfl, rx, rt⟩ := vals2 r
  obtain rfl : u1 = Value.ref a := rx
  have ec := hcv _ rt
  subst ec
  obtain ⟨oe, od, mA, J, _⟩ := inst_kept I ha hd
  exact PySem.W.kia_one (kitx_excD C.hg C.hk C.hs C.hd C.ha C.hn C.ht C.hm) I.kIn J e (fun z => nomatch z) fun tk => ⟨.bl b, H, I.kept (t' := tk) fun _ _ z => z, rfl, q⟩
theorem ev_isY {σ : L2.St} {H : Hp} {K : PySem.W.Frag} {te tc : TE} {a D dd : Addr} {fs : List (Str × V)} {c : V} {cv : Value} {b : Bool} (h : Ev te σ H (.ref a)) (hc : Ev tc σ H c) (ha : H a = some (ExV (.ref D) (some dd) a)) (hd : H dd = some (.xd fs)) (C : ExcC K D) (hcv : ∀ u, RelV c u → u = cv) (k : PySem.W.kitOne K (.ref D) cv = some b) : Ev (tCB (rIsY K) (tCons te (tCons tc tNil))) σ H (.bl b) :=
  ev_cb (ea_cons h (ea_cons hc ea_nil)) fun H1 e _ q => ⟨D, a, dd, fs, c, cv, b, rfl, e _ _ ha, e _ _ hd, C, hcv, k, q H1 (Ex.refl H1)⟩
/-! ### a field of a kept error -/
def tXv (K : PySem.W.Frag) (te : TE) (f : Str) : TE := fun σ H Q => te σ H fun x H1 => ∃ (a C dd : Addr) (fs : List (Str × V)) (v : V), x = .ref a ∧ H1 a = some (ExV (.ref C) (some dd) a) ∧ H1 dd = some (.xd fs) ∧ XfC K C ∧ PySem.W.findIn K (.ref C) f = some none ∧ fs.lookup f = some v ∧ Q v H1
theorem pe_xv {X : Cx} {e : Expr} {te : TE} {pos : Pos} {n : Str} (he : PE X e te) (hb : attributeBase e n X.env (eval e X.env) = eval e X.env := by rfl) : PE X (.Attribute e n pos) (tXv X.K te n) := by
  refine ⟨fun pins s σ H Q I h => ?_⟩
  refine attr_of hb (thn (he.run pins s σ H _ I h) fun u s1 hh => ?_)
  obtain ⟨x, H1, I1, rx, a, C, dd, fs, v, ex, ha, hd, T, hno, l, q⟩ := hh
  subst ex
  obtain rfl : u = Value.ref a := rx
  obtain ⟨oe, od, mA, J, _, hr, hl⟩ := inst_kept I1 ha hd
  obtain ⟨u, hu, ru⟩ := RelO.some_of (v := v) (o := mA n) (by rw [← l]; exact hr n)
  exact HandSPX.exc_get I1.kIn J T.ga T.gg T.exC (PySem.W.findObj_own T.hdC hno rfl (by rw [hl, hu])) (handed_of ru) ⟨v, H1, I1.tok _, ru, q⟩
theorem ev_xv {σ : L2.St} {H : Hp} {K : PySem.W.Frag} {te : TE} {a C dd : Addr} {fs : List (Str × V)} {f : Str} {v : V} (h : Ev te σ H (.ref a)) (ha : H a = some (ExV (.ref C) (some dd) a)) (hd : H dd = some (.xd fs)) (T : XfC K C) (hno : PySem.W.findIn K (.ref C) f = some none) (l : fs.lookup f = some v) : Ev (tXv K te f) σ H v := fun H1 e Q q =>
  h H1 e _ fun H2 e2 => ⟨a, C, dd, fs, v, rfl, e2 _ _ (e _ _ ha), e2 _ _ (e _ _ hd), T, hno, l, q H2 e2⟩
/-! ### Base.__init__(self, ..) -/
section
variable {X : Cx} {e : Expr} {es : List Expr} {ta : TA} {p1 p2 pos : Pos} {x : Str} {Cb : Addr}
theorem pe_baseinit {pl : Sem Bool} (hg : Gl X x) (hm : X.mg x = some (.ref Cb)) (tC : PySem.W.typeIn X.K (.ref Cb) = some (.type "type")) (rd : PySem.W.readsIn X.K Cb (.type "type") = true) (ga : PySem.W.specialIn X.K (.ref Cb) "__getattribute__" = some (some (.builtin "type.__getattribute__")))
    (vV : PySem.W.findCls X.K (.ref Cb) (.type "type") "__init__" = some (.val (.builtin "ValueError.__init__"))) (ha : PA X (e :: es) ta) (hdb : (x == ("__debug__" : Str)) = false := by decide)
    (hc : eval (.Call (.Attribute (.Name x p1) "__init__" p2) (e :: es) [] pos) X.env = (do
      let ov ← eval (.Name x p1) X.env
      standAt p2.atName
      let (f, first) ← holding [ov] (getMethod ov "__init__" pl)
      callWith pos f first (backTo pos (starEach (e :: es) X.env)) (backToKw pos (keywordEach [] X.env))) := by rfl)
    (he : starEach (e :: es) X.env = (false, eval e X.env) :: starEach es X.env := by rfl) (hpl : (backTo pos (starEach es X.env)).any (·.1) = false := by rfl) :
    PE X (.Call (.Attribute (.Name x p1) "__init__" p2) (e :: es) [] pos) (tVeI X.K ta) := by
  refine ⟨fun pins s σ H Q I h => ?_⟩
  refine PySem.W.methodCall_KW (ld_glob I hg hm ?_ hdb) hc
  obtain ⟨m, fr⟩ := I.fr
  refine PySem.W.method_of_cls fr I.ok.mod.kin ga (PySem.W.cls_val fr I.ok.mod.kin tC rd vV (by decide +kernel) ?_)
  show wpAny _ _ (callWith pos (Value.builtin "ValueError.__init__") [] (backTo pos (starEach (e :: es) X.env)) []) _ _ _
  refine PyProof.Rows.callWith_method1 (thn (ha.run pos pins _ σ H _ (I.tok _) h) fun us s1 ⟨vs, H1, I1, r1, a, C, ws, ev, hl, T, ea, q⟩ => ?_) he hpl
  subst ev
  cases r1 with
  | @cons _ u0 _ ur ra rw' =>
    obtain rfl : u0 = Value.ref a := ra
    have hlen : ur.length ≤ sizeLine := by
      rw [← Paired.length rw', sizeLine_eq]
      omega
    exact oinit_ok T I1 ea hlen fun s' J => ⟨.non, H1, J, rfl, q⟩
end
/-! ### NoText -/
open MX
def oexB (K : PySem.W.Frag) (C : Addr) : Bool := match K.lookup C with
  | some ⟨.type "type", _, .cls cd, sl⟩ => (match cd.mro, sl.toList with
    | .ref C' :: bm, [_, _, _, _, some (.builtin n), _] => C' == C && n == "ValueError.__new__" && !cd.hasDel && cd.hasDict && PySem.HandSPX.refsVE bm
    | _, _ => false)
  | _ => false
theorem oexB_ok {K : PySem.W.Frag} {C : Addr} (q : oexB K C = true) : ∃ nm q N bs bm sn sub ab col dd k0 k1 k2 k3 k5, K.lookup C = some (excClassObj nm q C N bs bm true sn sub ab col dd k0 k1 k2 k3 k5 "ValueError.__new__") ∧ PySem.HandSPX.refsVE bm = true := by
  unfold oexB at q
  split at q
  · rename_i dd cd sl ho
    split at q
    · rename_i C' bm k0 k1 k2 k3 n k5 hm hs
      simp only [Bool.and_eq_true, beq_iff_eq, Bool.not_eq_true'] at q
      obtain ⟨⟨⟨⟨rfl, rfl⟩, hdel⟩, hdct⟩, hr⟩ := q
      obtain ⟨nm, bs, mro, ns, qn, hd, sn, sub, ab, col, del⟩ := cd
      dsimp only at hm hdel hdct
      subst hm hdel hdct
      have hsl : sl = #[k0, k1, k2, k3, some (.builtin "ValueError.__new__"), k5] := by
        obtain ⟨l⟩ := sl
        simp only at hs
        rw [hs]
      subst hsl
      exact ⟨nm, qn, ns, bs, bm, sn, sub, ab, col, dd, k0, k1, k2, k3, k5, ho, hr⟩
    · cases q
  · cases q
def spNoTextI (C : Addr) : Sp := fun vs H Q _ => ∃ (a : Addr) (i : Int), vs = [.ref a, .int i] ∧ 0 ≤ i ∧ i ≤ 999999 ∧ H a = some (exo a C none) ∧
  ∀ H1 dx, Ex H H1 → H1 dx = none → dx ≠ a → Q .non (upd (upd H1 dx (exd dx [("row", .int i)])) a (exo a C (some dx)))
/-- an error with its row goes out -/
def RaiseRow (C : Addr) (i : Int) (H : Hp) (E : XK) : Prop := ∀ d G, Ex H G → H d = none → G d = some (.xd [("row", .int i)]) → E (.ref C) (some d) G
theorem ps_raiseT {X : Cx} {C : Addr} {k : Nat} {ps : List Str} {x : Str} {e : Expr} {es : List Expr} {ta : TA} {p pos pos2 : Pos} {E : XK} (D : MOk X.prog X.w X.K X.mg X.base C "__init__" k ps [] (spNoTextI C)) (T : OexC X.K C) (hc : X.calm = true) (hr : Room (k + 1) X.A) (hg : Gl X x) (hm : X.mg x = some (.ref C)) (ha : PA X (e :: es) ta)
    (hdb : (x == ("__debug__" : Str)) = false := by decide) (he : starEach (e :: es) X.env = (false, eval e X.env) :: starEach es X.env := by rfl) (hpl : (backTo pos (starEach es X.env)).any (·.1) = false := by rfl)
    (hs : X.stack = X.env :: X.outer := by rfl) (hf : X.env.frame = some X.env.locals := by rfl) (hex : X.ex = [] := by rfl) {E₁ : Value → Shared → Prop}
    (hx : X.xe = fun e s' => wpAny (model X.prog X.w) X.A (leaving X.env e) (fun _ s'' => L2.CX X.prog X.w X.outer X.H_0 X.s_0 E e s'') E₁ s' := by rfl) : PS X (.Raise (some (.Call (.Name x p) (e :: es) [] pos)) none pos2) (fun _ σ H => tMkO C (spNoTextI C) [] ta σ H fun cls d H' => E cls d H') := by
  obtain ⟨f, fd, us, M, b, d, F⟩ := D.ex
  exact ps_raise hc (takes_of hs hf hex hx) (pmk_oex T M.1 (beq_iff_eq.mp M.2) F hr b d passL hg hm ha hdb he hpl)
theorem t_raiseT {σ : L2.St} {H : Hp} {C : Addr} {te : TE} {i : Int} {E : XK} (h : Ev te σ H (.int i)) (h1 : 0 ≤ i) (h2 : i ≤ 999999) (r : RaiseRow C i H E) : tMkO C (spNoTextI C) [] (tCons te tNil) σ H fun cls d H' => E cls d H' := by
  refine (ea_cons h ea_nil) H (Ex.refl H) _ fun H1 e1 => ⟨by show 1 ≤ 1000; decide, fun a na => ⟨a, i, rfl, h1, h2, upd_same, fun H2 dx e2 nd ne => ?_⟩⟩
  have nd1 : H1 dx = none := by
    have := fresh_back e2 nd
    rw [upd_ne ne] at this
    exact this
  refine ⟨rfl, dx, [("row", .int i)], upd_same, by rw [upd_ne ne, upd_same], nd1, r dx _ (fun b u hb => ?_) (fresh_back e1 nd1) upd_same⟩
  have hb1 := e1 b u hb
  have n1 : b ≠ a := fun z => by rw [z, na] at hb1; cases hb1
  have n2 : b ≠ dx := fun z => by rw [z, nd1] at hb1; cases hb1
  rw [upd_ne n2, del_ne n1, upd_ne n1, upd_ne n2]
  exact e2 b u (by rw [upd_ne n1]; exact hb1)
/-! ### read, done or refused -/
open GX MB HW PI PS RA RD RT RS
theorem pe_dnL {X : Cx} {x : Str} {k : Nat} {ps : List Str} {sp : Sp} {e : Expr} {es : List Expr} {t : TA} {p pos : Pos} (D : DnX X.prog X.w X.K X.mg X.base x k ps sp) (hr : Room k X.A) (hg : Gl X x) (ha : PA X (e :: es) t)
    (hdb : (x == ("__debug__" : Str)) = false := by decide) (he : starEach (e :: es) X.env = (false, eval e X.env) :: starEach es X.env := by rfl) (hpl : (backTo pos (starEach es X.env)).any (·.1) = false := by rfl) :
    PE X (.Call (.Name x p) (e :: es) [] pos) (tCall sp [] E0 t) := by
  obtain ⟨f, fd, m, kp, b, F⟩ := D.ex
  exact pe_call F hr hg m kp b .nil passL ha hdb he hpl
def goT : List Str → Nat → RSt → RSt ⊕ Nat
  | [], _, s => .inl s
  | r :: rs, i, s => match takeRow s r with
    | none => .inr i
    | some s' => goT rs (i + 1) s'
def spReadX (At : AtT) (C : Addr) : Sp := fun vs H Q E => ∃ (t last : Str) (rs ls : List Str), vs = [.str t] ∧ (∀ b, At.tb b → TabX H b) ∧ (∀ l ∈ ls, LampOk l) ∧ ls.length < 64 ∧ t.length ≤ 1000000 ∧ rs.length ≤ 100000 ∧ Txt.split t "\n" = rs ++ [last] ∧ AllG ls rs s0 ∧
  (∀ s, goT rs 0 s0 = .inl s → last = Str.empty → ∀ p fp H', At H' p ls s.B fp → (∀ b, fp b → H b = none) → Ex H H' → Q (.ref p) H') ∧ (∀ s, goT rs 0 s0 = .inl s → last ≠ Str.empty → RaiseRow C rs.length H E) ∧ ∀ i, goT rs 0 s0 = .inr i → i < rs.length → RaiseRow C i H E
theorem RaiseRow.mono {C : Addr} {i : Int} {H H' : Hp} {E : XK} (r : RaiseRow C i H E) (e : Ex H H') : RaiseRow C i H' E := fun d G eG nd hd => r d G (e.trans eG) (fresh_back e nd) hd
end RK

/-! texts cut into rows, texts with a row or a sign changed -/
namespace RF
open PySem PySem.Spec PyProof.Rows L2 TX RD
/-! ### cut at one sign -/
def cutL (s : Nat) : List Nat → List (List Nat)
  | [] => [[]]
  | c :: r => if c = s then [] :: cutL s r else (c :: (cutL s r).headD []) :: (cutL s r).tail
theorem cutL_ne (s : Nat) : ∀ l : List Nat, cutL s l ≠ []
  | [] => by simp [cutL]
  | c :: r => by
    unfold cutL
    split <;> simp
theorem cutL_cons (s : Nat) (l : List Nat) : cutL s l = (cutL s l).headD [] :: (cutL s l).tail := by
  cases h : cutL s l with
  | nil => exact absurd h (cutL_ne s l)
  | cons a r => rfl
theorem cutL_hit {s c : Nat} {r : List Nat} (h : c = s) : cutL s (c :: r) = [] :: cutL s r := by
  show (if c = s then _ else _) = _
  rw [if_pos h]
theorem cutL_miss {s c : Nat} {r : List Nat} (h : c ≠ s) : cutL s (c :: r) = (c :: (cutL s r).headD []) :: (cutL s r).tail := by
  show (if c = s then _ else _) = _
  rw [if_neg h]
theorem pre_one (s c : Nat) (r : List Nat) : TL.pre [s] (c :: r) = decide (c = s) := by
  unfold TL.pre
  show ([c] == [s]) = _
  by_cases h : c = s
  · rw [h]; simp
  · rw [decide_eq_false h]
    simpa using h
theorem spl_cut (s : Nat) : ∀ (l acc : List Nat), TL.spl [s] 0 acc l = (acc ++ (cutL s l).headD []) :: (cutL s l).tail
  | [], acc => by rw [TL.spl_nil]; simp [cutL]
  | c :: r, acc => by
    by_cases h : c = s
    · rw [TL.spl_hit (by rw [pre_one]; exact decide_eq_true h)]
      have ih := spl_cut s r []
      have e := cutL_hit (r := r) h
      rw [e]
      show acc :: TL.spl [s] 0 [] r = (acc ++ []) :: cutL s r
      rw [ih, List.append_nil, List.nil_append, ← cutL_cons]
    · rw [TL.spl_miss (by rw [pre_one]; exact decide_eq_false h), spl_cut s r (acc ++ [c])]
      have e := cutL_miss (r := r) h
      rw [e]
      show _ = (acc ++ (c :: (cutL s r).headD [])) :: (cutL s r).tail
      rw [List.append_assoc]
      rfl
theorem split_cut {x y : Str} {s : Nat} (ey : TL.tl y = [s]) (hk : y.cps.all (· < 256) = true) : (Txt.split x y).map TL.tl = cutL s (TL.tl x) := by
  rw [TL.split_spl x y (by rw [ey]; simp) (TL.kind_ok hk), ey, spl_cut, List.nil_append, ← cutL_cons]
theorem cutL_app (s : Nat) (q : List Nat) : ∀ p : List Nat, ∃ A a, cutL s p = A ++ [a] ∧ cutL s (p ++ q) = A ++ (a ++ (cutL s q).headD []) :: (cutL s q).tail
  | [] => ⟨[], [], rfl, by rw [List.nil_append, List.nil_append, List.nil_append]; exact cutL_cons s q⟩
  | c :: r => by
    obtain ⟨A, a, e1, e2⟩ := cutL_app s q r
    by_cases h : c = s
    · refine ⟨[] :: A, a, ?_, ?_⟩
      · rw [cutL_hit h, e1]; rfl
      · rw [List.cons_append, cutL_hit h, e2]; rfl
    · cases A with
      | nil =>
        refine ⟨[], c :: a, ?_, ?_⟩
        · rw [cutL_miss h, e1]; rfl
        · rw [List.cons_append, cutL_miss h, e2]; rfl
      | cons b A =>
        refine ⟨(c :: b) :: A, a, ?_, ?_⟩
        · rw [cutL_miss h, e1]; rfl
        · rw [List.cons_append, cutL_miss h, e2]; rfl
theorem cutL_sub (s : Nat) : ∀ (l : List Nat), ∀ p ∈ cutL s l, ∀ c ∈ p, c ∈ l ∧ c ≠ s
  | [], p, hp, c, hc => by
    have hp : p ∈ [([] : List Nat)] := hp
    rw [List.mem_singleton.mp hp] at hc
    cases hc
  | d :: r, p, hp, c, hc => by
    unfold cutL at hp
    split at hp
    · rcases List.mem_cons.mp hp with rfl | hp
      · cases hc
      · obtain ⟨h1, h2⟩ := cutL_sub s r p hp c hc
        exact ⟨List.mem_cons_of_mem _ h1, h2⟩
    · rename_i hd
      rcases List.mem_cons.mp hp with rfl | hp
      · rcases List.mem_cons.mp hc with rfl | hc
        · exact ⟨List.mem_cons_self, hd⟩
        · obtain ⟨h1, h2⟩ := cutL_sub s r ((cutL s r).headD []) (by rw [cutL_cons s r]; exact List.mem_cons_self) c hc
          exact ⟨List.mem_cons_of_mem _ h1, h2⟩
      · obtain ⟨h1, h2⟩ := cutL_sub s r p (by rw [cutL_cons s r]; exact List.mem_cons_of_mem _ hp) c hc
        exact ⟨List.mem_cons_of_mem _ h1, h2⟩
theorem split_signs {x y p : Str} {s : Nat} (ey : TL.tl y = [s]) (hk : y.cps.all (· < 256) = true) (h : p ∈ Txt.split x y) : ∀ c ∈ p.cps.toList, c ∈ x.cps.toList ∧ c ≠ s := fun c hc => by
  have hm : TL.tl p ∈ cutL s (TL.tl x) := by rw [← split_cut ey hk]; exact List.mem_map.mpr ⟨p, h, rfl⟩
  exact cutL_sub s _ _ hm c hc
theorem row_signs {x p : Str} (h : p ∈ Txt.split x "\n") : ∀ c ∈ p.cps.toList, c ∈ x.cps.toList ∧ c ≠ 10 := split_signs (s := 10) (by decide) (by decide +kernel) h
theorem word_signs {x p : Str} (h : p ∈ Txt.split x " ") : ∀ c ∈ p.cps.toList, c ∈ x.cps.toList ∧ c ≠ 32 := split_signs (s := 32) (by decide) (by decide +kernel) h
theorem split_ne {x y : Str} {s : Nat} (ey : TL.tl y = [s]) (hk : y.cps.all (· < 256) = true) : Txt.split x y ≠ [] := fun z => by
  have := split_cut (x := x) ey hk
  rw [z] at this
  exact cutL_ne s _ this.symm
/-- plain signs -/
def Asc (s : Str) : Prop := ∀ c ∈ s.cps.toList, c < 128
/-- a list of rows as all of another's but few -/
def Near (k : Nat) (rows old : List Str) : Prop := ∃ A N C, rows = A ++ N ++ C ∧ (∀ r ∈ A, r ∈ old) ∧ (∀ r ∈ C, r ∈ old) ∧ N.length ≤ k
theorem near_refl (k : Nat) (rows : List Str) : Near k rows rows := ⟨rows, [], [], by simp, fun _ h => h, fun _ h => absurd h List.not_mem_nil, Nat.zero_le _⟩
/-- a text with some signs at one place exchanged -/
theorem near_signs {t u : Str} {p q q' x : List Nat} (ht : t.cps.toList = p ++ q) (hq : q' = q ∨ ∃ c, q = c :: q') (hx : x.length ≤ 1) (hu : u.cps.toList = p ++ (x ++ q')) : Near 2 (Txt.split u "\n") (Txt.split t "\n") := by
  have et := split_cut (x := t) (y := "\n") (s := 10) (by decide) (by decide +kernel)
  have eu := split_cut (x := u) (y := "\n") (s := 10) (by decide) (by decide +kernel)
  have ht : TL.tl t = p ++ q := ht
  have hu : TL.tl u = p ++ (x ++ q') := hu
  rw [ht] at et
  rw [hu] at eu
  obtain ⟨A, a, e1, e2⟩ := cutL_app 10 q p
  obtain ⟨A2, a2, e3, e4⟩ := cutL_app 10 (x ++ q') p
  rw [e1] at e3
  obtain ⟨rfl, e5⟩ := List.append_inj' e3 rfl
  cases e5
  rw [e2] at et
  rw [e4] at eu
  -- what stands behind
  have tq : ∀ r ∈ (cutL 10 q').tail, r ∈ (cutL 10 q).tail := by
    rcases hq with rfl | ⟨c, rfl⟩
    · exact fun r h => h
    · intro r h
      show r ∈ (cutL 10 (c :: q')).tail
      unfold cutL
      split
      · exact List.mem_of_mem_tail h
      · exact h
  have mid : ∃ N C, (a ++ (cutL 10 (x ++ q')).headD []) :: (cutL 10 (x ++ q')).tail = N ++ C ∧ N.length ≤ 2 ∧ ∀ r ∈ C, r ∈ (cutL 10 q).tail := by
    cases x with
    | nil => exact ⟨[a ++ (cutL 10 q').headD []], (cutL 10 q').tail, rfl, by show 1 ≤ 2; decide, tq⟩
    | cons c x =>
      have : x = [] := by cases x with
        | nil => rfl
        | cons _ _ => simp at hx
      subst this
      by_cases h : c = 10
      · have e : cutL 10 ([c] ++ q') = [] :: cutL 10 q' := by
          show cutL 10 (c :: q') = _
          exact cutL_hit h
        rw [e]
        refine ⟨[a ++ [], (cutL 10 q').headD []], (cutL 10 q').tail, ?_, by show 2 ≤ 2; decide, tq⟩
        show (a ++ []) :: cutL 10 q' = _
        conv => lhs; rw [cutL_cons 10 q']
        rfl
      · have e : cutL 10 ([c] ++ q') = (c :: (cutL 10 q').headD []) :: (cutL 10 q').tail := by
          show cutL 10 (c :: q') = _
          exact cutL_miss h
        rw [e]
        exact ⟨[a ++ (c :: (cutL 10 q').headD [])], (cutL 10 q').tail, rfl, by show 1 ≤ 2; decide, tq⟩
  obtain ⟨N, C, en, hN, hC⟩ := mid
  rw [en] at eu
  have back : ∀ l : List (List Nat), ∃ rs : List Str, rs.map TL.tl = l := fun l => ⟨l.map fun x => ⟨x.toArray⟩, by
    rw [List.map_map]
    conv => rhs; rw [← List.map_id l]
    exact List.map_congr_left fun x _ => rfl⟩
  obtain ⟨A', hA'⟩ := back A
  obtain ⟨N', hN'⟩ := back N
  obtain ⟨C', hC'⟩ := back C
  have eu2 : Txt.split u "\n" = A' ++ N' ++ C' := TL.map_tl_inj (by rw [eu, List.map_append, List.map_append, hA', hN', hC', List.append_assoc])
  have inT : ∀ r : Str, TL.tl r ∈ A ++ (a ++ (cutL 10 q).headD []) :: (cutL 10 q).tail → r ∈ Txt.split t "\n" := fun r h => by
    rw [← et] at h
    obtain ⟨r2, h2, e⟩ := List.mem_map.mp h
    rw [← TL.ext_tl e]
    exact h2
  refine ⟨A', N', C', eu2, fun r hr => inT r (List.mem_append_left _ (by rw [← hA']; exact List.mem_map.mpr ⟨r, hr, rfl⟩)), fun r hr => inT r (List.mem_append_right _ (List.mem_cons_of_mem _ (hC _ (by rw [← hC']; exact List.mem_map.mpr ⟨r, hr, rfl⟩)))), ?_⟩
  have := congrArg List.length hN'
  rw [List.length_map] at this
  omega
/-- rows put together anew -/
theorem near_rows {rows old A N C : List Str} (e : rows = A ++ N ++ C) (hA : ∀ r ∈ A, r ∈ old) (hC : ∀ r ∈ C, r ∈ old) (hN : N.length ≤ 1) (fo : ∀ r ∈ old, (10 : Nat) ∉ r.cps.toList) (fn : ∀ r ∈ N, (10 : Nat) ∉ r.cps.toList) : Near 2 (Txt.split (Txt.join "\n" rows) "\n") old := by
  by_cases h : rows = []
  · rw [h]
    have : Txt.split (Txt.join "\n" []) "\n" = [Str.empty] := by
      refine TL.map_tl_inj ?_
      rw [split_cut (s := 10) (by decide) (by decide +kernel)]
      rfl
    rw [this]
    exact ⟨[], [Str.empty], [], rfl, fun _ h => absurd h List.not_mem_nil, fun _ h => absurd h List.not_mem_nil, by decide⟩
  · have : Txt.split (Txt.join "\n" rows) "\n" = rows := TL.split_join (s := 10) (S := []) (by decide) (by decide +kernel) h fun r hr => by
      rw [e] at hr
      rcases List.mem_append.mp hr with hr | hr
      · rcases List.mem_append.mp hr with hr | hr
        · exact fo r (hA r hr)
        · exact fn r hr
      · exact fo r (hC r hr)
    rw [this]
    exact ⟨A, N, C, e, hA, hC, by omega⟩
end RF

/-! what a state of reading knows -/
namespace RG
open PySem PySem.Spec PyProof.Rows L2 HB MB HW HI HM PI MC PS PT MD RL RY RZ TX RD RF
structure RInv (s : RSt) : Prop where
  inc : (s.B.map (·.n)).Pairwise (· < ·)
  top : ∀ c ∈ s.B, c.n ≤ s.n
  on : s.B = [] ∧ s.n = 0 ∨ ∃ c ∈ s.B, c.n = s.n
  cue : ∀ c ∈ s.B, GoodC c
  len : s.B.length ≤ 100
  lam : ∀ c ∈ s.B, c.n = s.n → (∀ x ∈ c.ws, x.1 = s.l ∨ tlt x.1 s.l) ∧ (s.l = Str.empty ∧ c.ws = [] ∨ s.l ∈ c.ws.map (·.1))
  ok : ∀ c ∈ s.B, ∀ x ∈ c.ws, LampOk x.1
theorem inv0 : RInv s0 := ⟨List.Pairwise.nil, fun c h => absurd h List.not_mem_nil, .inl ⟨rfl, rfl⟩, fun c h => absurd h List.not_mem_nil, Nat.zero_le _, fun c h => absurd h List.not_mem_nil, fun c h => absurd h List.not_mem_nil⟩
theorem RInv.nd {s : RSt} (i : RInv s) : (s.B.map (·.n)).Nodup := i.inc.imp fun {a b} h (z : a = b) => by omega
theorem RInv.n0 {s : RSt} (i : RInv s) : 0 ≤ s.n := i.on.elim (fun h => by rw [h.2]; decide) fun ⟨c, hc, e⟩ => by have := (i.cue c hc).n1; omega
def CueOk (s : RSt) (n u d : Int) : Prop := 1 ≤ n ∧ s.n < n ∧ s.B.length < 100 ∧ 0 ≤ u ∧ u ≤ 6000 ∧ 0 ≤ d ∧ d ≤ 6000
theorem takeCue_yes {s s' : RSt} {n u d : Int} {fr : Bool} (h : takeCue s n u d fr = some s') : CueOk s n u d ∧ n ≤ 999999 ∧ s' = ⟨s.B ++ [⟨n, u, d, fr, []⟩], n, Str.empty⟩ := by
  unfold takeCue at h
  split at h
  · cases h
  · rename_i h1
    split at h
    · rename_i h2
      obtain ⟨a, b, c, d, e⟩ := due_none h2
      rw [numIn_int, Bool.and_eq_true, decide_eq_true_iff, decide_eq_true_iff] at a c d
      exact ⟨⟨a.1, by omega, e, c.1, c.2, d.1, d.2⟩, a.2, (Option.some.inj h).symm⟩
    · cases h
theorem takeCue_of {s : RSt} {n u d : Int} {fr : Bool} (i : RInv s) (k : CueOk s n u d) (n2 : n ≤ 999999) : takeCue s n u d fr = some ⟨s.B ++ [⟨n, u, d, fr, []⟩], n, Str.empty⟩ := by
  obtain ⟨n1, lt, few, u1, u2, d1, d2⟩ := k
  unfold takeCue
  rw [if_neg (by omega), if_pos (due_put n1 n2 (fun z => ?_) u1 u2 d1 d2 few)]
  obtain ⟨c, hc, e⟩ := List.mem_map.mp z
  have := i.top c hc
  omega
def WordOk (s : RSt) (l : Str) (v : Int) : Prop := s.B ≠ [] ∧ LampOk l ∧ 0 ≤ v ∧ v ≤ 100 ∧ ∀ c ∈ s.B, c.n = s.n → ∀ x ∈ c.ws, tlt x.1 l
theorem takeWord_yes {s s' : RSt} {l : Str} {v : Int} (i : RInv s) (h : takeWord s l v = some s') : WordOk s l v ∧ s.n ∈ s.B.map (·.n) ∧ s' = ⟨setW s.B s.n l v, s.n, l⟩ := by
  unfold takeWord at h
  split at h
  · cases h
  · rename_i h1
    have h1 : tlt s.l l := Decidable.not_not.mp h1
    split at h
    · rename_i h2
      unfold askDue at h2
      split at h2
      · cases h2
      · rename_i a
        rw [if_neg (by decide)] at h2
        split at h2
        · cases h2
        · rename_i b
          rw [if_neg (fun z => absurd z.1 (by decide))] at h2
          split at h2
          · cases h2
          · rename_i c
            have hin : s.n ∈ s.B.map (·.n) := by
              rw [Bool.not_eq_false, inB_int] at a
              exact of_decide_eq_true a
            have hl : lampIs (.str l) = true := by
              cases q : lampIs (.str l) with
              | true => rfl
              | false => exact absurd ⟨by decide, q⟩ b
            have hv : numIn (.int v) 0 100 = true := by
              cases q : numIn (.int v) 0 100 with
              | true => rfl
              | false => exact absurd ⟨by decide, q⟩ c
            obtain ⟨z, ez, lk⟩ := lamp_yes hl
            cases ez
            rw [numIn_int, Bool.and_eq_true, decide_eq_true_iff, decide_eq_true_iff] at hv
            refine ⟨⟨fun z => (by rw [z] at hin; cases hin), lk, hv.1, hv.2, fun c hc e x hx => ?_⟩, hin, (Option.some.inj h).symm⟩
            rcases (i.lam c hc e).1 x hx with q | q
            · rw [q]; exact h1
            · exact tlt_trans q h1
    · cases h
theorem tlt_empty {l : Str} (h : LampOk l) : tlt Str.empty l := by
  unfold tlt
  have := h.pos
  have e : l.cps.toList.length = l.length := rfl
  cases q : l.cps.toList with
  | nil => rw [q] at e; simp at e; omega
  | cons a r => exact List.nil_lt_cons a r
theorem takeWord_of {s : RSt} {l : Str} {v : Int} (i : RInv s) (k : WordOk s l v) : takeWord s l v = some ⟨setW s.B s.n l v, s.n, l⟩ := by
  obtain ⟨ne, lk, v1, v2, up⟩ := k
  rcases i.on with ⟨z, _⟩ | ⟨c, hc, e⟩
  · exact absurd z ne
  · have lt : tlt s.l l := by
      rcases (i.lam c hc e).2 with ⟨q, _⟩ | q
      · rw [q]; exact tlt_empty lk
      · obtain ⟨x, hx, ex⟩ := List.mem_map.mp q
        rw [← ex]; exact up c hc e x hx
    unfold takeWord
    rw [if_neg (Decidable.not_not.mpr lt), if_pos (due_tell (List.mem_map.mpr ⟨c, hc, e⟩) lk v1 v2)]
theorem RInv.put {s : RSt} {n u d : Int} {fr : Bool} (i : RInv s) (k : CueOk s n u d) (n2 : n ≤ 999999) : RInv ⟨s.B ++ [⟨n, u, d, fr, []⟩], n, Str.empty⟩ := by
  obtain ⟨n1, lt, few, u1, u2, d1, d2⟩ := k
  have old : ∀ {c : Cu}, c ∈ s.B ++ [⟨n, u, d, fr, []⟩] → c ∈ s.B ∨ c = ⟨n, u, d, fr, []⟩ := fun {c} h => (List.mem_append.mp h).imp id fun h => List.mem_singleton.mp h
  refine ⟨?_, fun c h => ?_, .inr ⟨⟨n, u, d, fr, []⟩, List.mem_append_right _ (List.mem_singleton.mpr rfl), rfl⟩, fun c h => ?_, ?_, fun c h e => ?_, fun c h x hx => ?_⟩
  · show ((s.B ++ [_]).map _).Pairwise _
    rw [List.map_append]
    refine List.pairwise_append.mpr ⟨i.inc, List.pairwise_singleton _ _, fun a ha b hb => ?_⟩
    obtain ⟨c, hc, rfl⟩ := List.mem_map.mp ha
    have hb : b = n := List.mem_singleton.mp hb
    have := i.top c hc
    omega
  · show c.n ≤ n
    rcases old h with h | rfl
    · have := i.top c h; omega
    · exact Int.le_refl _
  · rcases old h with h | rfl
    · exact i.cue c h
    · exact ⟨n1, n2, u1, u2, d1, d2, List.nodup_nil, fun p hp => absurd hp List.not_mem_nil⟩
  · show (s.B ++ [_]).length ≤ 100
    rw [List.length_append]
    show s.B.length + 1 ≤ 100
    omega
  · rcases old h with h | rfl
    · have := i.top c h
      have e : c.n = n := e
      omega
    · exact ⟨fun x hx => absurd hx List.not_mem_nil, .inl ⟨rfl, rfl⟩⟩
  · rcases old h with h | rfl
    · exact i.ok c h x hx
    · exact absurd hx List.not_mem_nil
theorem mem_setW {B : Bk} {n : Int} {l : Str} {v : Int} {c : Cu} (h : c ∈ setW B n l v) : ∃ c0 ∈ B, (c0.n ≠ n ∧ c = c0) ∨ (c0.n = n ∧ c = { c0 with ws := wput c0.ws l v }) := by
  obtain ⟨c0, hc, e⟩ := List.mem_map.mp h
  refine ⟨c0, hc, ?_⟩
  by_cases q : c0.n = n
  · rw [if_pos q] at e; exact .inr ⟨q, e.symm⟩
  · rw [if_neg q] at e; exact .inl ⟨q, e.symm⟩
theorem wput_in {ws : List (Str × Int)} {l : Str} {v : Int} : l ∈ (wput ws l v).map (·.1) := by
  unfold wput
  split
  · rename_i h
    obtain ⟨p, hp, e⟩ := List.any_eq_true.mp h
    have e := of_decide_eq_true e
    refine List.mem_map.mpr ⟨(p.1, v), List.mem_map.mpr ⟨p, hp, by rw [if_pos e]⟩, e⟩
  · exact List.mem_map.mpr ⟨(l, v), List.mem_append_right _ (List.mem_singleton.mpr rfl), rfl⟩
theorem RInv.word {s : RSt} {l : Str} {v : Int} (i : RInv s) (k : WordOk s l v) : RInv ⟨setW s.B s.n l v, s.n, l⟩ := by
  obtain ⟨ne, lk, v1, v2, up⟩ := k
  refine ⟨?_, fun c h => ?_, ?_, fun c h => ?_, ?_, fun c h e => ?_, fun c h x hx => ?_⟩
  · show ((setW s.B s.n l v).map _).Pairwise _
    rw [setW_nums]; exact i.inc
  · obtain ⟨c0, h0, ⟨_, rfl⟩ | ⟨_, rfl⟩⟩ := mem_setW h
    · exact i.top _ h0
    · exact i.top c0 h0
  · rcases i.on with ⟨z, _⟩ | ⟨c, hc, e⟩
    · exact absurd z ne
    · refine .inr ⟨{ c with ws := wput c.ws l v }, List.mem_map.mpr ⟨c, hc, if_pos e⟩, e⟩
  · obtain ⟨c0, h0, ⟨_, rfl⟩ | ⟨_, rfl⟩⟩ := mem_setW h
    · exact i.cue _ h0
    · have g := i.cue c0 h0
      refine ⟨g.n1, g.n2, g.u1, g.u2, g.d1, g.d2, wput_keys _ _ _ g.nd, fun p hp => ?_⟩
      rcases wput_mem hp with hp | rfl
      · exact g.lv p hp
      · exact ⟨v1, v2⟩
  · show (setW s.B s.n l v).length ≤ 100
    unfold setW
    rw [List.length_map]; exact i.len
  · obtain ⟨c0, h0, ⟨q, rfl⟩ | ⟨q, rfl⟩⟩ := mem_setW h
    · exact absurd e q
    · refine ⟨fun x hx => ?_, .inr wput_in⟩
      rcases wput_mem hx with hx | rfl
      · exact .inr (up c0 h0 q x hx)
      · exact .inl rfl
  · obtain ⟨c0, h0, ⟨_, rfl⟩ | ⟨_, rfl⟩⟩ := mem_setW h
    · exact i.ok _ h0 x hx
    · rcases wput_mem hx with hx | rfl
      · exact i.ok c0 h0 x hx
      · exact lk
/-- what a row of words does -/
theorem takeWs_yes {s s' : RSt} {ws : List Str} (i : RInv s) (h : takeWs s ws = some s') : (∃ a b, ws = [a, b] ∧ takeWord s a (numW b) = some s') ∨ ∃ n u d fr, takeCue s n u d fr = some s' := by
  unfold takeWs at h
  split at h
  · exact .inl ⟨_, _, rfl, h⟩
  · split at h
    · exact .inr ⟨_, _, _, _, h⟩
    · cases h
  · split at h
    · exact .inr ⟨_, _, _, _, h⟩
    · cases h
  · cases h
theorem RInv.step {s s' : RSt} {ws : List Str} (i : RInv s) (h : takeWs s ws = some s') : RInv s' := by
  rcases takeWs_yes i h with ⟨a, b, rfl, h⟩ | ⟨n, u, d, fr, h⟩
  · obtain ⟨k, _, rfl⟩ := takeWord_yes i h
    exact i.word k
  · obtain ⟨k, n2, rfl⟩ := takeCue_yes h
    exact i.put k n2
theorem lam_step {ls : List Str} {s s' : RSt} {ws : List Str} (i : RInv s) (h : takeWs s ws = some s') (lam : Lam ls s.B) (hw : ∀ a b, ws = [a, b] → LampOk a → a ∈ ls) : Lam ls s'.B := by
  rcases takeWs_yes i h with ⟨a, b, rfl, h⟩ | ⟨n, u, d, fr, h⟩
  · obtain ⟨k, _, rfl⟩ := takeWord_yes i h
    exact setW_lam lam _ _ (hw a b rfl k.2.1)
  · obtain ⟨k, n2, rfl⟩ := takeCue_yes h
    intro c hc x hx
    rcases List.mem_append.mp hc with hc | hc
    · exact lam c hc x hx
    · rw [List.mem_singleton.mp hc] at hx; cases hx
theorem RInv.good {ls : List Str} {s : RSt} (i : RInv s) (lam : Lam ls s.B) (ok : ∀ l ∈ ls, LampOk l) (few : ls.length < 64) : Good ls s.B := ⟨i.nd, i.len, i.cue, lam, ok, few⟩
theorem allG {ls : List Str} (ok : ∀ l ∈ ls, LampOk l) (few : ls.length < 64) : ∀ (rs : List Str) (s : RSt), RInv s → Lam ls s.B → (∀ r ∈ rs, ∀ a b, Txt.split r " " = [a, b] → LampOk a → a ∈ ls) → AllG ls rs s
  | [], s, i, lam, _ => i.good lam ok few
  | r :: rs, s, i, lam, hr => ⟨i.good lam ok few, fun s' h => allG ok few rs s' (i.step h) (lam_step i h lam (hr r List.mem_cons_self)) fun q hq => hr q (List.mem_cons_of_mem _ hq)⟩
/-- the whole reading keeps it -/
theorem goT_inv {ls : List Str} : ∀ (rs : List Str) (k : Nat) (s s' : RSt), RInv s → Lam ls s.B → (∀ r ∈ rs, ∀ a b, Txt.split r " " = [a, b] → LampOk a → a ∈ ls) → RK.goT rs k s = .inl s' → RInv s' ∧ Lam ls s'.B
  | [], _, s, s', i, lam, _, h => by
    cases h
    exact ⟨i, lam⟩
  | r :: rs, k, s, s', i, lam, hr, h => by
    unfold RK.goT at h
    cases q : takeRow s r with
    | none => rw [q] at h; cases h
    | some s2 =>
      rw [q] at h
      exact goT_inv rs (k + 1) s2 s' (i.step q) (lam_step i q lam (hr r List.mem_cons_self)) (fun x hx => hr x (List.mem_cons_of_mem _ hx)) h
theorem dig_lt : ∀ (k : Nat) (cs : List Nat), cs.length = k → NumText.AllDigits cs → NumText.digitsVal cs < 10 ^ k
  | 0, cs, h, _ => by
    rw [List.length_eq_zero_iff.mp h]
    decide
  | k + 1, cs, h, a => by
    rcases List.eq_nil_or_concat cs with rfl | ⟨r, c, rfl⟩
    · cases h
    · rw [List.concat_eq_append] at h a ⊢
      rw [List.length_append] at h
      have ih := dig_lt k r (by simp at h; omega) fun x hx => a x (List.mem_append_left _ hx)
      have hc := a c (List.mem_append_right _ (List.mem_singleton.mpr rfl))
      rw [NumText.digitsVal_snoc, Nat.pow_succ]
      omega
theorem all_fig {l : List Nat} (h : l.all isFig = true) : NumText.AllDigits l := fun c hc => by
  obtain ⟨a, b⟩ := Bool.and_eq_true_iff.mp (List.all_eq_true.mp h c hc)
  exact ⟨of_decide_eq_true a, of_decide_eq_true b⟩
theorem numW_le (w : Str) : numW w ≤ 999999 := by
  unfold numW
  split
  · decide
  · rename_i h1
    split
    · decide
    · rename_i h2
      split
      · decide
      · have l1 : w.cps.toList.length ≤ 6 := by
          rw [Bool.or_eq_true, decide_eq_true_iff, decide_eq_true_iff] at h1
          omega
        have h2 : w.cps.toList.all isFig = true := by
          cases q : w.cps.toList.all isFig with
          | true => rfl
          | false => exact absurd q h2
        have h3 := dig_lt _ _ rfl (all_fig h2)
        have h4 : 10 ^ w.cps.toList.length ≤ 10 ^ 6 := Nat.pow_le_pow_right (by decide) l1
        have h5 : (10 : Nat) ^ 6 = 1000000 := by decide
        omega
end RG

/-! max of a list of ints, of a dict with int keys -/
namespace RN
open PySem PySem.Spec PyProof.Rows L2 Evl HB MB HW
section
variable {X : Cx} {pins : List (Addr × Obj)} {σ : L2.St} {H : Hp} {s : Shared} {K : PySem.W.Frag} {te : TE}
theorem best_gt {ks : List Int} {n : Nat} (h : n + 1 = ks.length) : ks.getD (argBest (fun i j => decide (ks.getD i 0 > ks.getD j 0)) n) 0 ∈ ks ∧ ∀ y ∈ ks, y ≤ ks.getD (argBest (fun i j => decide (ks.getD i 0 > ks.getD j 0)) n) 0 := by
  obtain ⟨h1, h2⟩ := argBest_gt (fun i => ks.getD i 0) n
  refine ⟨PySem.getD_mem (by omega), fun y hy => ?_⟩
  obtain ⟨j, hj, rfl⟩ := PySem.mem_getD hy
  exact h2 j (by omega)
def rMaxL (K : PySem.W.Frag) : List V → Hp → VK → Prop := fun vs H Q => ∃ (a : Addr) (ns : List Int), vs = [.ref a] ∧ SqL K H a (ns.map V.int) ∧ ns ≠ [] ∧ ∀ m, m ∈ ns → (∀ y ∈ ns, y ≤ m) → Q (.int m) H
theorem cr_maxL (hc : X.calm = true) : CallR X (.builtin "max") (rMaxL X.K) := by
  intro pins s σ H vs us Q I r h
  obtain ⟨a, ns, rfl, hs, ne, q⟩ := h
  obtain ⟨its, rv, hl, _⟩ := I.list hs
  obtain rfl := Vals.ref1 r
  have hi := rv.ints
  have hl := hl.isList
  obtain ⟨xs, e⟩ := hi.allInts.items
  have hns : ns = xs.toList.map (·.1) := by
    rw [← hi.numsOf, ← nums_intItems, ← e]
  have hsz : 0 < xs.size := by
    have h3 := List.length_pos_iff.mpr ne
    rw [hns, List.length_map, Array.length_toList] at h3
    exact h3
  rw [e] at hl
  refine max_intList (I.ok.hd hc) hl hsz fun v h' tk hv hk => ?_
  obtain ⟨t, rfl⟩ := intItems_at hv
  obtain ⟨h1, h2⟩ := argBest_gt (numAt xs) (xs.size - 1)
  refine ⟨.int _, H, I.kept hk, ⟨_, rfl⟩, q _ ?_ fun a ha => ?_⟩
  · rw [hns, numAt_eq]; exact PySem.getD_mem (by rw [List.length_map, Array.length_toList]; omega)
  · rw [hns] at ha
    obtain ⟨j, hj, rfl⟩ := PySem.mem_getD ha
    rw [List.length_map, Array.length_toList] at hj
    rw [← numAt_eq]; exact h2 j (by omega)
def rMaxK : List V → Hp → VK → Prop := fun vs H Q => ∃ (a : Addr) (kvs : List (Key × V)) (ks : List Int), vs = [.ref a] ∧ Rd H a (.dK kvs) ∧ kvs.map (·.1) = ks.map Sum.inl ∧ ks ≠ [] ∧ ∀ m, m ∈ ks → (∀ y ∈ ks, y ≤ m) → Q (.int m) H
theorem cr_maxK (hc : X.calm = true) : CallR X (.builtin "max") rMaxK := by
  intro pins s σ H vs us Q I r h
  obtain ⟨a, kvs, ks, rfl, hd, hk, ne, q⟩ := h
  obtain rfl := Vals.ref1 r
  obtain ⟨z, lo, vs, rel, dd⟩ := dk_rd I.hok hd
  obtain ⟨ep, hat⟩ := dd.dictAt
  have keys : vs.map (·.1) = ks.map Sum.inl := rel.keys.symm.trans hk
  have same : vs.length = ks.length := by simpa using congrArg List.length keys
  have pos := List.length_pos_iff.mpr ne
  have key : ∀ i v, (∃ k x, vs[i]? = some (k, x) ∧ (mixKind X.prog X.w).is k v = true) → ∃ t, v = .int (ks.getD i 0) t := fun i v ⟨k, x, e1, e2⟩ => by
    have e3 : (ks.map (Sum.inl : Int → Key))[i]? = some k := by rw [← keys, List.getElem?_map, e1]; rfl
    rw [List.getElem?_map] at e3
    obtain ⟨y, ey, e5⟩ := Option.map_eq_some_iff.mp e3
    subst e5
    rcases keyIs_shape (show keyIs (Sum.inl y) v = true from e2) with ⟨i, t, ek, ev⟩ | ⟨z, t, ek, ev⟩
    · cases ek
      exact ⟨t, by rw [ev, List.getD_eq_getElem?_getD, ey]; rfl⟩
    · cases ek
  refine call_max_walk (wpAny_pyIter_dict lo hat ?_)
  refine ⟨_, _, _, _, _, _, _, rfl, Walks.dictKeys (A := X.A.in1) (I.ok.hd hc) s.heap.objs.size a (Nat.ne_of_lt hat.lt_size) vs ep, ⟨⟨_, Heap.get?_push_size _ rfl, rfl, rfl⟩, hat.push _⟩, fun b hb => ?_, by omega, CmpOf.ints_gt (fun i => ks.getD i 0) key, fun v h' tk hP hk => ?_⟩
  · show b < (s.heap.push _).objs.size
    rw [Heap.size_push]
    rcases List.mem_cons.mp hb with rfl | hb
    · exact Nat.lt_succ_self _
    · rw [List.mem_singleton.mp hb]
      exact Nat.lt_succ_of_lt hat.lt_size
  · obtain ⟨t, rfl⟩ := key _ _ hP
    obtain ⟨h1, h2⟩ := best_gt (ks := ks) (n := vs.length - 1) (by omega)
    refine ⟨.int _, H, I.kept fun b o e => ?_, ⟨_, rfl⟩, q _ h1 h2⟩
    refine hk b o (fun hm => ?_) (Heap.get?_push_of_some _ e)
    rw [List.mem_singleton.mp hm] at e
    exact absurd (Heap.lt_size e) (Nat.lt_irrefl _)
end
section
variable {σ : L2.St} {H : Hp} {K : PySem.W.Frag} {te : TE}
theorem ev_maxL {ns : List Int} {m : Int} (h : EvL te σ H (ns.map V.int)) (hm : m ∈ ns) (top : ∀ y ∈ ns, y ≤ m) : Ev (tCB (rMaxL K) (tCons te tNil)) σ H (.int m) := fun H1 e Q q =>
  h H1 e _ fun p H2 np e2 h2 => ⟨p, ns, rfl, .of h2, fun z => by (rw [z] at hm; cases hm), fun m2 hm2 top2 => by
    have e : m2 = m := Int.le_antisymm (top m2 hm2) (top2 m hm)
    rw [e]
    exact q H2 e2⟩
theorem ev_maxK {a : Addr} {kvs : List (Key × V)} {ks : List Int} {m : Int} (h : Ev te σ H (.ref a)) (hd : Rd H a (.dK kvs)) (hk : kvs.map (·.1) = ks.map Sum.inl) (hm : m ∈ ks) (top : ∀ y ∈ ks, y ≤ m) : Ev (tCB rMaxK (tCons te tNil)) σ H (.int m) := fun H1 e Q q =>
  h H1 e _ fun H2 e2 => ⟨a, kvs, ks, rfl, rd_keep (C := True) (fun o _ h => (e.trans e2) _ _ h) trivial hd, hk, fun z => by (rw [z] at hm; cases hm), fun m2 hm2 top2 => by
    have e : m2 = m := Int.le_antisymm (top m2 hm2) (top2 m hm)
    rw [e]
    exact q H2 e2⟩
end
end RN

/-! signs of a text that are other than asked; lists of texts beside [] -/
namespace RO
open PySem PySem.Spec PyProof.Rows L2 Evl HB MB HW HI PI HJ RL TX RD RF
theorem asc_strOk {s : Str} (h : Asc s) : PyData.strOk s = true := by
  unfold PyData.strOk
  rw [Array.all_eq_true]
  intro i hi
  have := h s.cps[i] (by rw [Array.mem_toList_iff]; exact Array.getElem_mem hi)
  exact decide_eq_true (by omega)
def oth (p : Nat → Bool) (z : Str) : List Str := ((List.range z.cps.size).filter fun i => !p (z.cps.toList.getD i 0)).map fun i => ⟨#[z.cps.toList.getD i 0]⟩
theorem oth_nil (p : Nat → Bool) (z : Str) : decide (oth p z = []) = z.cps.toList.all p := by
  unfold oth
  rw [Bool.eq_iff_iff, decide_eq_true_iff, List.map_eq_nil_iff, List.filter_eq_nil_iff, List.all_eq_true]
  constructor
  · intro h c hc
    obtain ⟨i, hi, e⟩ := List.getElem_of_mem hc
    have hi2 : i < z.cps.size := by rw [← Array.length_toList]; exact hi
    have := h i (List.mem_range.mpr hi2)
    rw [List.getD_eq_getElem?_getD, List.getElem?_eq_getElem hi, e] at this
    simpa using this
  · intro h i hi
    have hi1 := List.mem_range.mp hi
    have hi2 : i < z.cps.toList.length := by rw [Array.length_toList]; exact hi1
    rw [List.getD_eq_getElem?_getD, List.getElem?_eq_getElem hi2]
    have := h _ (List.getElem_mem hi2)
    simp only [Option.getD_some, this]
    decide
theorem oth_ok {p : Nat → Bool} {z : Str} (h : Asc z) : ∀ y ∈ oth p z, PyData.strOk y = true := fun y hy => by
  obtain ⟨i, hi, rfl⟩ := List.mem_map.mp hy
  have hi1 := List.mem_range.mp (List.mem_filter.mp hi).1
  have hi2 : i < z.cps.toList.length := by rw [Array.length_toList]; exact hi1
  have hc := h _ (List.getElem_mem hi2)
  rw [List.getD_eq_getElem?_getD, List.getElem?_eq_getElem hi2]
  exact strOk_one hc
section
variable {σ : L2.St} {H : Hp} {K : PySem.W.Frag} {tl te : TE} {t : TT}
theorem getD_at {z : Str} {i c : Nat} (h : z.cps[i]? = some c) : z.cps.toList.getD i 0 = c := by
  rw [List.getD_eq_getElem?_getD, Array.getElem?_toList, h]
  rfl
/-- one turn, many of them -/
theorem cw_many {H H' : Hp} {f : Nat → Bool} {v : Nat → V} {Dl : Addr} {i : Nat} {σ2 : L2.St} (p : Cw H f v Dl i H') (hi : i < 16000000) (ht : EvT t σ2 H (f i)) (he : f i = true → Ev te σ2 H (v i)) :
    t σ2 H' fun b H3 => if b = true then te σ2 H3 fun y H4 => ∃ acc, H4 Dl = some (.lst acc) ∧ acc.length < sizeLine ∧ Cw H f v Dl (i + 1) (upd H4 Dl (.lst (acc ++ [y]))) else Cw H f v Dl (i + 1) H3 := by
  obtain ⟨p1, p2, p3⟩ := p
  refine ht H' p2 _ fun H3 e3 => ?_
  cases hf : f i with
  | true =>
    rw [if_pos rfl]
    have gl := given_len i f v
    refine he hf H3 (p2.trans e3) _ fun H4 e4 => ⟨given i f v, e4 Dl _ (e3 Dl _ p3), by rw [sizeLine_eq]; omega, p1, Ex.mut ((p2.trans e3).trans e4) p1, ?_⟩
    rw [given_yes hf]
    exact upd_same
  | false =>
    rw [if_neg Bool.false_ne_true]
    exact ⟨p1, p2.trans e3, by rw [given_no hf]; exact e3 _ _ p3⟩
theorem el_lcS2 {s : Str} {j : Nat} {vs : List Nat} (f : Nat → Bool) (g : Nat → V) (h : Ev tl σ H (.str s)) (hz : s.length ≤ 1000000) (hw : ∀ x, wipe ((wipe σ vs).set j (some x)) vs = wipe σ vs)
    (ht : ∀ (i c : Nat) H1, Ex H H1 → s.cps[i]? = some c → EvT t ((wipe σ vs).set j (some (.str ⟨#[c]⟩))) H1 (f i)) (he : ∀ (i c : Nat) H1, Ex H H1 → s.cps[i]? = some c → f i = true → Ev te ((wipe σ vs).set j (some (.str ⟨#[c]⟩))) H1 (g i)) :
    EvL (tLc (iStr tl) (gName j) t te vs) σ H (given s.cps.size f g) := fun H0 e Q q => h H0 e _ fun H1 e1 => ⟨s, rfl, fun D hD =>
  lc_it walk_str (Cw H1 f g D) ⟨hD, Ex.new hD, upd_same⟩ (fun _ _ _ _ => trivial) (fun i x Hb Hc hi p hy => by
    obtain ⟨rfl, c, hc, rfl⟩ := hy
    have hz : s.cps.size ≤ 1000000 := hz
    exact ⟨hw _, cw_many p (by omega) (ht i c H1 (e.trans e1) hc) fun hf => he i c H1 (e.trans e1) hc hf⟩) fun Hb p => q D Hb (fresh_back e1 p.1) (e1.trans p.2.1) p.2.2⟩
theorem el_oth {s : Str} {j : Nat} {vs : List Nat} (p : Nat → Bool) (h : Ev tl σ H (.str s)) (hz : s.length ≤ 1000000) (hw : ∀ x, wipe ((wipe σ vs).set j (some x)) vs = wipe σ vs)
    (ht : ∀ (c : Nat) H1, Ex H H1 → EvT t ((wipe σ vs).set j (some (.str ⟨#[c]⟩))) H1 (!p c)) (he : ∀ (c : Nat) H1, Ex H H1 → Ev te ((wipe σ vs).set j (some (.str ⟨#[c]⟩))) H1 (.str ⟨#[c]⟩)) :
    EvL (tLc (iStr tl) (gName j) t te vs) σ H ((oth p s).map V.str) := by
  have e : (oth p s).map V.str = given s.cps.size (fun i => !p (s.cps.toList.getD i 0)) (fun i => V.str ⟨#[s.cps.toList.getD i 0]⟩) := by
    unfold given oth
    rw [List.map_map]
    rfl
  rw [e]
  refine el_lcS2 _ _ h hz hw (fun i c H3 e3 hc => ?_) (fun i c H3 e3 hc hf => ?_)
  · rw [getD_at hc]; exact ht c H3 e3
  · rw [getD_at hc]; exact he c H3 e3
theorem ev_neStr0 {ys : List Str} (h : EvL te σ H (ys.map V.str)) (ok : ∀ y ∈ ys, PyData.strOk y = true) : Ev (tOp (rNeD K) te (tLst tNil)) σ H (.bl (!decide (ys = []))) := by
  have he : PyData.eqv (.list (ys.map PyData.str)) (.list ([] : List PyData)) = decide (ys = []) := by
    cases ys with
    | nil => rw [List.map_nil, PyData.eqv, PyData.eqvAll]; rfl
    | cons a r => rw [List.map_cons, PyData.eqv, PyData.eqvAll]; rfl
  rw [← he]
  refine ev_opLL h (el_lst ea_nil (Nat.zero_le _)) fun a b H4 ha hb e4 => rv_neD (fun H5 e5 => dp_lst (.of (e5 _ _ ha)) fun a => .str a) (fun H5 e5 => .lst (.of (e5 _ _ hb)) .nil) (shaped_list _ _ (fun a h => ?_) fun a _ => ?_) (by decide +kernel)
  · rw [PyData.canLay0]; exact ok a h
  · rw [PyData.depth]
    exact Nat.zero_le _
theorem ev_neStrV {ys : List Str} {a : Addr} (h : Ev te σ H (.ref a)) (ha : H a = some (.lst (ys.map V.str))) (ok : ∀ y ∈ ys, PyData.strOk y = true) : Ev (tOp (rNeD K) te (tLst tNil)) σ H (.bl (!decide (ys = []))) := by
  have he : PyData.eqv (.list (ys.map PyData.str)) (.list ([] : List PyData)) = decide (ys = []) := by
    cases ys with
    | nil => rw [List.map_nil, PyData.eqv, PyData.eqvAll]; rfl
    | cons a r => rw [List.map_cons, PyData.eqv, PyData.eqvAll]; rfl
  rw [← he]
  refine ev_opL h (el_lst ea_nil (Nat.zero_le _)) fun b H4 hb e4 => rv_neD (fun H5 e5 => dp_lst (.of (e5 _ _ (e4 _ _ ha))) fun a => .str a) (fun H5 e5 => .lst (.of (e5 _ _ hb)) .nil) (shaped_list _ _ (fun a h => ?_) fun a _ => ?_) (by decide +kernel)
  · rw [PyData.canLay0]; exact ok a h
  · rw [PyData.depth]
    exact Nat.zero_le _
/-- [f(x) for x in xs], xs a new list -/
theorem el_mapN {α : Type} {xs : List α} {j : Nat} {vs : List Nat} (c g : α → V) (h : EvL tl σ H (xs.map c)) (hz : xs.length ≤ 40000) (hw : ∀ x, wipe ((wipe σ vs).set j (some x)) vs = wipe σ vs)
    (he : ∀ x H1, Ex H H1 → x ∈ xs → Ev te ((wipe σ vs).set j (some (c x))) H1 (g x)) : EvL (tLc (iList K tl) (gName j) tYes te vs) σ H (xs.map g) := fun H0 e Q q =>
  h H0 e _ fun p H1 np e1 hp =>
    PS.el_mapL (tl := fun _ H Q => Q (.ref p) H) c g (fun H1 e Q q => q H1 (Ex.refl H1)) (.of hp) hz hw (fun x H2 e2 hx => he x H2 ((e.trans e1).trans e2) hx) H1 (Ex.refl H1) Q fun p2 H2 np2 e2 h2 => q p2 H2 (fresh_back e1 np2) (e1.trans e2) h2
/-- list(d) -/
theorem el_listD {a : Addr} {kvs : List (Key × V)} (h : Ev te σ H (.ref a)) (hd : Rd H a (.dK kvs)) : EvL (tCB (fun xs H Q => ∃ (a : Addr) (kvs : List (Key × V)), xs = [V.ref a] ∧ Rd H a (.dK kvs) ∧ ∀ p, H p = none → Q (.ref p) (upd H p (.lst (kvs.map fun kv => kV kv.1)))) (tCons te tNil)) σ H (kvs.map fun kv => kV kv.1) := fun H1 e Q q =>
  h H1 e _ fun H2 e2 => ⟨a, kvs, rfl, rd_keep (C := True) (fun o _ h => (e.trans e2) _ _ h) trivial hd, fun p np => q p _ (fresh_back e2 np) (e2.trans (Ex.new np)) upd_same⟩
theorem s_asgQ {i : Nat} {te : TE} {D : Ends} (h : te σ H fun v H1 => D.nx (σ.set i (some v)) H1) : tAsg te (gName i) D σ H := h
theorem inV45 (n : Int) : inV (.int n) [.int 4, .int 5] = (decide (n = 4) || decide (n = 5)) := by
  unfold inV
  simp only [List.any_cons, List.any_nil, eqV, Bool.or_false]
  rw [Bool.eq_iff_iff]
  simp only [Bool.or_eq_true, beq_iff_eq, decide_eq_true_iff]
  constructor <;> (rintro (h | h)) <;> omega
theorem inV_strs (x : Str) (ys : List Str) : inV (.str x) (ys.map V.str) = decide (x ∈ ys) := by
  unfold inV
  rw [Bool.eq_iff_iff, List.any_eq_true, decide_eq_true_iff]
  constructor
  · rintro ⟨y, hy, h⟩
    obtain ⟨z, hz, rfl⟩ := List.mem_map.mp hy
    have h : (z == x) = true := h
    rw [← beq_iff_eq.mp h]
    exact hz
  · intro h
    exact ⟨.str x, List.mem_map.mpr ⟨x, h, rfl⟩, by show (x == x) = true; exact beq_self_eq_true x⟩
theorem flat_strs (ys : List Str) : (ys.map V.str).all flatV = true := by
  rw [List.all_eq_true]
  intro v hv
  obtain ⟨y, _, rfl⟩ := List.mem_map.mp hv
  rfl
theorem rv_addL {a b : Str} (h : a.length + b.length ≤ 16777216) : RV (fun x y H Q => ∃ i j : Str, x = .str i ∧ y = .str j ∧ i.length + j.length ≤ sizeLine ∧ Q (.str (i ++ j)) H) (.str a) (.str b) H (.str (a ++ b)) := fun H1 _ _ q => ⟨a, b, rfl, rfl, by rw [sizeLine_eq]; exact h, q H1 (Ex.refl H1)⟩
end
theorem cut_init (xs : List V) (x : V) : cutV (xs ++ [x]) none (some (-1)) = xs := by
  unfold cutV
  have l : (xs ++ [x]).length = xs.length + 1 := by simp
  show ((xs ++ [x]).drop 0).take ((if (-1 : Int) < 0 then ((-1 : Int) + ((xs ++ [x]).length : Int)).toNat else min (-1 : Int).toNat (xs ++ [x]).length) - 0) = xs
  rw [if_pos (by decide), l, List.drop_zero, Nat.sub_zero, show ((-1 : Int) + ((xs.length + 1 : Nat) : Int)).toNat = xs.length by omega, List.take_append_of_le_length (Nat.le_refl _), List.take_length]
def figs : Str := "0123456789"
def smalls : Str := "abcdefghijklmnopqrstuvwxyz"
theorem figs_mem (c : Nat) : decide (c ∈ ("0123456789" : Str).cps.toList) = isFig c := by
  have e : ("0123456789" : Str).cps.toList = (List.range 10).map (48 + ·) := by decide +kernel
  rw [e]
  unfold isFig
  rw [← Bool.decide_and]
  refine decide_eq_decide.mpr ?_
  rw [List.mem_map]
  constructor
  · rintro ⟨a, h, rfl⟩
    have := List.mem_range.mp h
    omega
  · intro h
    exact ⟨c - 48, List.mem_range.mpr (by omega), by omega⟩
theorem smalls_mem (c : Nat) : decide (c ∈ ("abcdefghijklmnopqrstuvwxyz" : Str).cps.toList) = small c := by
  have e : ("abcdefghijklmnopqrstuvwxyz" : Str).cps.toList = (List.range 26).map (97 + ·) := by decide +kernel
  rw [e]
  unfold small
  rw [← Bool.decide_and]
  refine decide_eq_decide.mpr ?_
  rw [List.mem_map]
  constructor
  · rintro ⟨a, h, rfl⟩
    have := List.mem_range.mp h
    omega
  · intro h
    exact ⟨c - 97, List.mem_range.mpr (by omega), by omega⟩
end RO

/-! how long rows are, put together again -/
namespace RV
open PySem PySem.Spec PyProof.Rows L2 Evl HB MB HW HI PI HJ TX RD RF RO
def W (rows : List Str) : Nat := (rows.map fun r => r.length + 1).sum
theorem W_app (a b : List Str) : W (a ++ b) = W a + W b := by
  unfold W
  rw [List.map_append, List.sum_append]
theorem W_cut (rows : List Str) (i j : Nat) : W ((rows.drop i).take j) ≤ W rows := by
  have e1 : W rows = W (rows.take i) + W (rows.drop i) := by rw [← W_app, List.take_append_drop]
  have e2 : W (rows.drop i) = W ((rows.drop i).take j) + W ((rows.drop i).drop j) := by rw [← W_app, List.take_append_drop]
  omega
theorem cutL_W (s : Nat) : ∀ l : List Nat, ((cutL s l).map fun r => r.length + 1).sum = l.length + 1
  | [] => rfl
  | c :: r => by
    have ih := cutL_W s r
    by_cases h : c = s
    · rw [cutL_hit h]
      simp only [List.map_cons, List.sum_cons, List.length_nil, List.length_cons]
      omega
    · rw [cutL_miss h]
      rw [cutL_cons s r] at ih
      simp only [List.map_cons, List.sum_cons, List.length_cons] at ih ⊢
      omega
theorem W_split (t : Str) : W (Txt.split t "\n") = t.length + 1 := by
  have e := split_cut (x := t) (y := "\n") (s := 10) (by decide) (by decide +kernel)
  have h := cutL_W 10 (TL.tl t)
  rw [← e, List.map_map] at h
  have l : (TL.tl t).length = t.length := (TL.len_tl t).symm
  rw [← l, ← h]
  unfold W
  rfl
theorem len_le_W : ∀ rows : List Str, rows.length ≤ W rows
  | [] => Nat.le_refl _
  | r :: rows => by
    have := len_le_W rows
    show rows.length + 1 ≤ r.length + 1 + W rows
    omega
theorem sum_W : ∀ rows : List Str, (rows.map (·.length)).sum + rows.length * ("\n" : Str).length = W rows
  | [] => rfl
  | r :: rows => by
    have ih := sum_W rows
    have l : ("\n" : Str).length = 1 := by decide
    rw [l, Nat.mul_one] at ih ⊢
    show r.length + (rows.map (·.length)).sum + (rows.length + 1) = r.length + 1 + W rows
    omega
theorem join_facts : ∀ rows : List Str, (Txt.join "\n" rows).length ≤ W rows ∧ ∀ c ∈ (Txt.join "\n" rows).cps.toList, c = 10 ∨ ∃ r ∈ rows, c ∈ r.cps.toList
  | [] => by
    rw [TL.join_eq]
    exact ⟨by decide, fun c hc => absurd hc (by show ¬ c ∈ ([] : List Nat); exact List.not_mem_nil)⟩
  | [a] => by
    rw [TL.join_eq]
    exact ⟨by show a.length ≤ a.length + 1 + 0; omega, fun c hc => .inr ⟨a, List.mem_singleton.mpr rfl, hc⟩⟩
  | a :: b :: rows => by
    obtain ⟨h1, h2⟩ := join_facts (b :: rows)
    rw [TL.join_eq] at h1 h2 ⊢
    have e : Str.join "\n" (a :: b :: rows) = a ++ ("\n" : Str) ++ Str.join "\n" (b :: rows) := rfl
    rw [e]
    have l : ("\n" : Str).length = 1 := by decide
    refine ⟨?_, fun c hc => ?_⟩
    · rw [len_app, len_app, l]
      show a.length + 1 + _ ≤ a.length + 1 + W (b :: rows)
      omega
    · rcases (mem_nl (s := 0)).mp hc with hc | hc
      · rcases (mem_nl (s := 0)).mp hc with hc | hc
        · exact .inr ⟨a, List.mem_cons_self, hc⟩
        · exact .inl (by
            have : c ∈ [10] := hc
            exact List.mem_singleton.mp this)
      · rcases h2 c hc with h | ⟨r, hr, h⟩
        · exact .inl h
        · exact .inr ⟨r, List.mem_cons_of_mem _ hr, h⟩
theorem join_asc {rows : List Str} (h : ∀ r ∈ rows, Asc r) : Asc (Txt.join "\n" rows) := fun c hc => by
  rcases (join_facts rows).2 c hc with z | ⟨r, hr, z⟩
  · omega
  · exact h r hr c z
def cutR (rows : List Str) (lo hi : Option Int) : List Str := (rows.drop (HT.sIx rows.length 0 lo)).take (HT.sIx rows.length rows.length hi - HT.sIx rows.length 0 lo)
theorem cutV_map (rows : List Str) (lo hi : Option Int) : cutV (rows.map V.str) lo hi = (cutR rows lo hi).map V.str := by
  unfold cutV cutR
  rw [List.length_map, List.map_take, List.map_drop]
theorem cutR_mem {rows : List Str} {lo hi : Option Int} {r : Str} (h : r ∈ cutR rows lo hi) : r ∈ rows := List.mem_of_mem_drop (List.mem_of_mem_take h)
theorem W_cutR (rows : List Str) (lo hi : Option Int) : W (cutR rows lo hi) ≤ W rows := W_cut _ _ _
theorem split_asc {t : Str} (h : Asc t) : ∀ r ∈ Txt.split t "\n", Asc r := fun r hr c hc => h c (row_signs hr c hc).1
theorem split_free (t : Str) : ∀ r ∈ Txt.split t "\n", (10 : Nat) ∉ r.cps.toList := fun r hr z => (row_signs hr 10 z).2 rfl
/-- a text with a row changed -/
def Ok10 (x : Str) : Prop := Asc x ∧ x.length ≤ 100 ∧ (10 : Nat) ∉ x.cps.toList
structure Chg (t u : Str) : Prop where
  asc : Asc u
  len : u.length ≤ 3 * t.length + 200
  near : Near 2 (Txt.split u "\n") (Txt.split t "\n")
theorem chg_rows {t : Str} {A N C : List Str} (ha : Asc t) (hA : ∀ r ∈ A, r ∈ Txt.split t "\n") (hC : ∀ r ∈ C, r ∈ Txt.split t "\n") (wA : W A + W C ≤ 3 * (t.length + 1)) (hN : N = [] ∨ ∃ x, N = [x] ∧ Ok10 x) : Chg t (Txt.join "\n" (A ++ N ++ C)) := by
  have nx : ∀ r ∈ N, Ok10 r := fun r hr => by
    rcases hN with rfl | ⟨x, rfl, k⟩
    · cases hr
    · rw [List.mem_singleton.mp hr]; exact k
  have wN : W N ≤ 101 := by
    rcases hN with rfl | ⟨x, rfl, k⟩
    · exact Nat.zero_le _
    · show x.length + 1 + 0 ≤ 101
      have := k.2.1
      omega
  refine ⟨join_asc fun r hr => ?_, ?_, near_rows (A := A) (N := N) (C := C) rfl hA hC ?_ (split_free t) fun r hr => (nx r hr).2.2⟩
  · rcases List.mem_append.mp hr with hr | hr
    · rcases List.mem_append.mp hr with hr | hr
      · exact split_asc ha r (hA r hr)
      · exact (nx r hr).1
    · exact split_asc ha r (hC r hr)
  · have h := (join_facts (A ++ N ++ C)).1
    rw [W_app, W_app] at h
    omega
  · rcases hN with rfl | ⟨x, rfl, k⟩
    · exact Nat.zero_le _
    · exact Nat.le_refl _
theorem tl_cut (t : Str) (lo hi : Option Int) : (cutS t lo hi).cps.toList = (t.cps.toList.drop (HT.sIx t.length 0 lo)).take (HT.sIx t.length t.length hi - HT.sIx t.length 0 lo) := by
  unfold cutS
  exact List.toList_toArray
theorem cut_front (t : Str) (k : Nat) (h : k ≤ t.length) : (cutS t none (some (k : Int))).cps.toList = t.cps.toList.take k := by
  rw [tl_cut, HT.sIx_none, HT.sIx_nat, List.drop_zero, Nat.sub_zero, Nat.min_eq_left h]
theorem cut_back (t : Str) (k : Nat) : (cutS t (some (k : Int)) none).cps.toList = t.cps.toList.drop k := by
  have l : t.cps.toList.length = t.length := (TL.len_tl t).symm
  rw [tl_cut, HT.sIx_none, HT.sIx_nat]
  by_cases h : k ≤ t.length
  · rw [Nat.min_eq_left h, List.take_of_length_le (by rw [List.length_drop, l]; exact Nat.le_refl _)]
  · rw [Nat.min_eq_right (by omega), Nat.sub_self, List.take_zero, List.drop_eq_nil_of_le (by omega)]
/-- a text with a sign changed -/
theorem chg_signs {t u : Str} {k : Nat} {x : List Nat} (ha : Asc t) (hk : k ≤ t.length) (q' : List Nat) (hq : q' = t.cps.toList.drop k ∨ q' = t.cps.toList.drop (k + 1)) (hx : x = [] ∨ ∃ c, x = [c] ∧ c < 128) (hu : u.cps.toList = t.cps.toList.take k ++ (x ++ q')) : Chg t u := by
  have l : t.cps.toList.length = t.length := (TL.len_tl t).symm
  have lu : u.cps.toList.length = u.length := (TL.len_tl u).symm
  have xl : x.length ≤ 1 := by rcases hx with rfl | ⟨c, rfl, _⟩ <;> simp
  refine ⟨fun c hc => ?_, ?_, near_signs (p := t.cps.toList.take k) (q := t.cps.toList.drop k) (q' := q') (x := x) (List.take_append_drop k _).symm ?_ xl hu⟩
  · rw [hu] at hc
    rcases List.mem_append.mp hc with hc | hc
    · exact ha c (List.mem_of_mem_take hc)
    · rcases List.mem_append.mp hc with hc | hc
      · rcases hx with rfl | ⟨d, rfl, hd⟩
        · cases hc
        · rw [List.mem_singleton.mp hc]; exact hd
      · rcases hq with rfl | rfl
        · exact ha c (List.mem_of_mem_drop hc)
        · exact ha c (List.mem_of_mem_drop hc)
  · have := congrArg List.length hu
    rw [List.length_append, List.length_append, List.length_take, l, lu] at this
    have q1 : q'.length ≤ t.length := by rcases hq with rfl | rfl <;> rw [List.length_drop, l] <;> omega
    omega
  · rcases hq with h | h
    · exact .inl h
    · by_cases e : k < t.length
      · exact .inr ⟨_, by rw [h]; exact List.drop_eq_getElem_cons (by rw [l]; exact e)⟩
      · refine .inl ?_
        rw [h, List.drop_eq_nil_of_le (by omega), List.drop_eq_nil_of_le (by omega)]
theorem chg_same {t : Str} (ha : Asc t) : Chg t t := ⟨ha, by omega, near_refl _ _⟩
section
variable {σ : L2.St} {H : Hp} {K : PySem.W.Frag} {ta tb : TE}
theorem el_cat2 {A C : List Str} (h1 : EvL ta σ H (A.map V.str)) (h2 : EvL tb σ H (C.map V.str)) (hz : A.length + C.length ≤ 16000000) : EvL (tOp rCat ta tb) σ H ((A ++ C).map V.str) := fun H1 e Q q => by
  rw [List.map_append] at q
  exact h1 H1 e _ fun a H2 _ e2 h2' => h2 H2 (e.trans e2) _ fun b H3 _ e3 h3 => ⟨a, b, A.map V.str, C.map V.str, rfl, rfl, e3 _ _ h2', h3, by rw [List.length_map, List.length_map, sizeLine_eq]; omega, fun p hp => q p _ (fresh_back (e2.trans e3) hp) ((e2.trans e3).trans (Ex.new hp)) upd_same⟩
end
end RV

/-! texts that law k10 reads: few lamps in them -/
namespace RU
open PySem PySem.Spec PyProof.Rows L2 Evl HB MB HW HI HM PI MC HJ PS PT MD TX RD RF RG RO RV
structure Rdy (u : Str) : Prop where
  asc : Asc u
  len : u.length ≤ 90000
  rows : ∃ ls : List Str, (∀ l ∈ ls, LampOk l) ∧ ls.length ≤ 60 ∧ ∀ r ∈ Txt.split u "\n", ∀ a b, Txt.split r " " = [a, b] → LampOk a → a ∈ ls
theorem asc_of {a : Str} (h : a.cps.toList.all (fun c => decide (c < 128)) = true) : Asc a := fun c hc => of_decide_eq_true (List.all_eq_true.mp h c hc)
theorem asc_app {a b : Str} (ha : Asc a) (hb : Asc b) : Asc (a ++ b) := fun c hc => ((mem_nl (s := 0)).mp hc).elim (ha c) (hb c)
theorem asc_num {i : Int} (h : 0 ≤ i) : Asc (sI i) := fun c hc => by
  rw [tl_sI h] at hc
  have := TL.numL_digits i.toNat c hc
  have h2 : 48 ≤ c ∧ c ≤ 57 := this
  omega
theorem asc_lamp {l : Str} (h : LampOk l) : Asc l := fun c hc => by have := h.low c hc; omega
theorem flat_len {α : Type} (f : α → List Str) (k : Nat) : ∀ xs : List α, (∀ x ∈ xs, (f x).length ≤ k) → (xs.flatMap f).length ≤ xs.length * k
  | [], _ => Nat.zero_le _
  | x :: xs, h => by
    have ih := flat_len f k xs fun y hy => h y (List.mem_cons_of_mem _ hy)
    have := h x List.mem_cons_self
    rw [List.flatMap_cons, List.length_append, List.length_cons, Nat.succ_mul]
    omega
section
variable {ls : List Str} {B : Bk}
theorem rows_asc (g : Good ls B) : ∀ r ∈ textRows B, Asc r := fun r hr => by
  obtain ⟨c, hc, hs⟩ := List.mem_flatMap.mp hr
  have hc := asc_in hc
  have gc := g.cue c hc
  have sp : Asc (" " : Str) := asc_of (by decide +kernel)
  rcases List.mem_cons.mp hs with rfl | hs
  · unfold headS
    refine asc_app (asc_of (by decide +kernel)) (asc_app sp (asc_app (asc_num (by have := gc.n1; omega)) (asc_app sp (asc_app (asc_num gc.u1) (asc_app sp (asc_app (asc_num gc.d1) ?_))))))
    split
    · exact asc_of (by decide +kernel)
    · exact asc_of (by decide +kernel)
  · obtain ⟨x, hx, rfl⟩ := List.mem_map.mp hs
    obtain ⟨_, k, v1, v2⟩ := word_of g hc hx
    exact asc_app (asc_lamp k) (asc_app sp (asc_num v1))
theorem text_asc (g : Good ls B) : Asc (textB B) := by
  unfold textB
  rw [join_nl]
  refine join_asc fun r hr => ?_
  rcases List.mem_append.mp hr with hr | hr
  · exact rows_asc g r hr
  · rw [List.mem_singleton.mp hr]
    exact fun c hc => absurd hc List.not_mem_nil
theorem text_short (g : Good ls B) (h6 : ls.length ≤ 6) (h9 : B.length ≤ 9) : (textB B).length ≤ 2583 := by
  unfold textB
  rw [join_len]
  have h1 := sum_len 41 ((textRows B).map nl) fun s hs => by
    obtain ⟨r, hr, rfl⟩ := List.mem_map.mp hs
    have := row_len g hr
    have l2 : ("\n" : Str).length = 1 := by decide
    unfold nl
    rw [len_app]
    omega
  have h2 : (textRows B).length ≤ (asc B).length * 7 := flat_len rowsC 7 (asc B) fun c hc => by
    have hc := asc_in hc
    have := nodup_len (ls := ls) (g.cue c hc).nd fun x hx => by
      obtain ⟨p, hp, rfl⟩ := List.mem_map.mp hx
      exact g.lam c hc p hp
    rw [List.length_map] at this
    show ((sortW c.ws).map rowS).length + 1 ≤ 7
    rw [List.length_map, sortW_len]
    omega
  rw [(asc_perm B).length_eq] at h2
  rw [List.length_map] at h1
  have h3 : (textRows B).length ≤ 63 := by omega
  have : (textRows B).length * 41 ≤ 63 * 41 := Nat.mul_le_mul_right _ h3
  omega
theorem old_rows (g : Good ls B) : ∀ r ∈ Txt.split (textB B) "\n", ∀ a b, Txt.split r " " = [a, b] → a ∈ ls := fun r hr a b e => by
  rw [split_textB g] at hr
  rcases List.mem_append.mp hr with hr | hr
  · obtain ⟨c, hc, hs⟩ := List.mem_flatMap.mp hr
    have hc := asc_in hc
    rcases List.mem_cons.mp hs with rfl | hs
    · rw [split_head g hc] at e
      have := congrArg List.length e
      rw [List.length_append] at this
      simp only [List.length_cons, List.length_nil] at this
      omega
    · obtain ⟨x, hx, rfl⟩ := List.mem_map.mp hs
      rw [split_word g hc hx] at e
      obtain ⟨m, _, _, _⟩ := word_of g hc hx
      have ea : x.1 = a := (List.cons.inj e).1
      rw [← ea]
      exact g.lam c hc _ (wlook_mem m)
  · rw [List.mem_singleton.mp hr] at e
    have e2 : Txt.split Str.empty " " = [Str.empty] := by
      refine TL.map_tl_inj ?_
      rw [split_cut (s := 32) (by decide) (by decide +kernel)]
      rfl
    rw [e2] at e
    exact absurd (congrArg List.length e) (by simp)
/-- the lamp that a row of two words begins with -/
def lampRow (r : Str) : Option Str := match Txt.split r " " with
  | [a, _] => if RL.lampIs (.str a) = true then some a else none
  | _ => none
theorem rdy_chg {u : Str} (g : Good ls B) (h6 : ls.length ≤ 6) (h9 : B.length ≤ 9) (c : Chg (textB B) u) : Rdy u := by
  have tl := text_short g h6 h9
  obtain ⟨A, N, C, e, hA, hC, hN⟩ := c.near
  refine ⟨c.asc, by have := c.len; omega, ls ++ N.filterMap lampRow, fun l hl => ?_, ?_, fun r hr a b hs lk => ?_⟩
  · rcases List.mem_append.mp hl with hl | hl
    · exact g.ok l hl
    · obtain ⟨r, hr, h⟩ := List.mem_filterMap.mp hl
      unfold lampRow at h
      split at h
      · split at h
        · rename_i k
          obtain ⟨z, ez, q⟩ := RL.lamp_yes k
          cases ez
          rw [← Option.some.inj h]
          exact q
        · cases h
      · cases h
  · rw [List.length_append]
    have := List.length_filterMap_le lampRow N
    omega
  · rw [e] at hr
    rcases List.mem_append.mp hr with hr | hr
    · rcases List.mem_append.mp hr with hr | hr
      · exact List.mem_append_left _ (old_rows g r (hA r hr) a b hs)
      · refine List.mem_append_right _ (List.mem_filterMap.mpr ⟨r, hr, ?_⟩)
        unfold lampRow
        rw [hs]
        exact if_pos (RL.lamp_of lk)
    · exact List.mem_append_left _ (old_rows g r (hC r hr) a b hs)
end
/-! ### rows of cues alone -/
def crow (i : Int) : Str := ("cue " : Str) ++ sI i ++ (" 0 0" : Str)
def ctext (n : Nat) : Str := Txt.join "" ((List.range n).map fun i : Nat => ("cue " : Str) ++ sI (1 + (i : Int)) ++ (" 0 0\n" : Str))
theorem ctext_nl (n : Nat) : ctext n = Txt.join "" (((List.range n).map fun i : Nat => crow (1 + (i : Int))).map nl) := by
  unfold ctext
  rw [List.map_map]
  refine congrArg _ (List.map_congr_left fun i _ => ?_)
  show _ = nl (crow _)
  unfold nl crow
  rw [app_assoc, app_assoc, app_assoc]
  rfl
theorem crow_asc {i : Int} (h : 0 ≤ i) : Asc (crow i) := asc_app (asc_app (asc_of (by decide +kernel)) (asc_num h)) (asc_of (by decide +kernel))
theorem crow_free {i : Int} (h : 0 ≤ i) : (10 : Nat) ∉ (crow i).cps.toList := fun z => by
  unfold crow at z
  simp only [mem_nl (s := 0)] at z
  rcases z with (z | z) | z
  · exact absurd z (by decide)
  · exact sI_free h (.inl (by decide)) z
  · exact absurd z (by decide)
theorem crow_words {i : Int} (h : 0 ≤ i) : Txt.split (crow i) " " = [("cue" : Str), sI i, ("0" : Str), ("0" : Str)] := by
  have e : crow i = Txt.join " " [("cue" : Str), sI i, ("0" : Str), ("0" : Str)] := by
    rw [TL.join_eq]
    show _ = ("cue" : Str) ++ (" " : Str) ++ (sI i ++ (" " : Str) ++ (("0" : Str) ++ (" " : Str) ++ ("0" : Str)))
    unfold crow
    rw [show ("cue " : Str) = ("cue" : Str) ++ (" " : Str) from rfl, show (" 0 0" : Str) = (" " : Str) ++ (("0" : Str) ++ ((" " : Str) ++ ("0" : Str))) from rfl]
    simp only [app_assoc]
  rw [e]
  refine split_row (by simp) fun r hr => ?_
  simp only [List.mem_cons, List.not_mem_nil, or_false] at hr
  rcases hr with rfl | rfl | rfl | rfl
  · decide
  · exact sI_free h (.inl (by decide))
  · decide
  · decide
theorem rdy_cues {n : Nat} (h : n ≤ 200) : Rdy (ctext n) := by
  rw [ctext_nl]
  have mem : ∀ r ∈ (List.range n).map (fun i : Nat => crow (1 + (i : Int))), ∃ i : Int, 0 ≤ i ∧ i ≤ 999999 ∧ r = crow i := fun r hr => by
    obtain ⟨i, hi, rfl⟩ := List.mem_map.mp hr
    have := List.mem_range.mp hi
    exact ⟨_, by omega, by omega, rfl⟩
  have l1 : ("cue " : Str).length = 4 := by decide
  have l2 : (" 0 0" : Str).length = 4 := by decide
  have l3 : ("\n" : Str).length = 1 := by decide
  refine ⟨?_, ?_, [], fun l hl => absurd hl List.not_mem_nil, Nat.zero_le _, fun r hr a b hs _ => ?_⟩
  · rw [join_nl]
    refine join_asc fun r hr => ?_
    rcases List.mem_append.mp hr with hr | hr
    · obtain ⟨i, h0, _, rfl⟩ := mem r hr
      exact crow_asc h0
    · rw [List.mem_singleton.mp hr]
      exact fun c hc => absurd hc List.not_mem_nil
  · rw [join_len]
    have h1 := sum_len 16 (((List.range n).map fun i : Nat => crow (1 + (i : Int))).map nl) fun s hs => by
      obtain ⟨r, hr, rfl⟩ := List.mem_map.mp hs
      obtain ⟨i, h0, h9, rfl⟩ := mem r hr
      have := sI_len h0 h9
      unfold nl crow
      rw [len_app, len_app, len_app]
      omega
    rw [List.length_map, List.length_map, List.length_range] at h1
    omega
  · rw [split_text fun r hr => by
      obtain ⟨i, h0, _, rfl⟩ := mem r hr
      exact crow_free h0] at hr
    rcases List.mem_append.mp hr with hr | hr
    · obtain ⟨i, h0, _, rfl⟩ := mem r hr
      rw [crow_words h0] at hs
      exact absurd (congrArg List.length hs) (by simp)
    · rw [List.mem_singleton.mp hr] at hs
      have e2 : Txt.split Str.empty " " = [Str.empty] := by
        refine TL.map_tl_inj ?_
        rw [split_cut (s := 32) (by decide) (by decide +kernel)]
        rfl
      rw [e2] at hs
      exact absurd (congrArg List.length hs) (by simp)
theorem goT_lt : ∀ (rs : List Str) (k : Nat) (s : RSt) (i : Nat), RK.goT rs k s = .inr i → k ≤ i ∧ i < k + rs.length
  | [], k, s, i, h => by cases h
  | r :: rs, k, s, i, h => by
    unfold RK.goT at h
    cases q : takeRow s r with
    | none =>
      rw [q] at h
      have : k = i := Sum.inr.inj h
      rw [List.length_cons]
      omega
    | some s' =>
      rw [q] at h
      have := goT_lt rs (k + 1) s' i h
      rw [List.length_cons]
      omega
end RU
namespace RU
open PySem PySem.Spec PyProof.Rows L2 Evl HB MB HW HI HM PI MC HJ PS PT MD TX RD RF RG RO RV
section
variable {σ : L2.St} {H : Hp} {K : PySem.W.Frag} {te t1 t2 : TE} {ta : TA}
/-- [g(i) for i in range(lo, n)] -/
theorem el_lcR2 {j : Nat} {vs : List Nat} {lo n : Int} (g : Nat → V) (h : EvA ta σ H [.int lo, .int n]) (h0 : 0 ≤ lo) (hn : n ≤ 40000 ∧ 0 ≤ n ∧ lo ≤ 40000) (hw : ∀ x, wipe ((wipe σ vs).set j (some x)) vs = wipe σ vs)
    (he : ∀ (i : Nat) H1, Ex H H1 → lo + (i : Int) < n → Ev te ((wipe σ vs).set j (some (.int (lo + (i : Int))))) H1 (g i)) :
    EvL (tLc (iRng2 ta) (gName j) tYes te vs) σ H ((List.range (n - lo).toNat).map g) := fun H0 e Q q => h H0 e _ fun H1 e1 => ⟨lo, n, rfl, ⟨by omega, by omega, by omega, by omega⟩, fun Dl hD =>
  lc_range (lo := lo) (n := (n - lo).toNat) (Cw H1 (fun _ => true) g Dl) ⟨hD, Ex.new hD, upd_same⟩ (fun i H' hi p => by
    exact ⟨hw _, cw_turn p (by omega) et_yes fun _ => he i H1 (e.trans e1) (by omega)⟩) (fun H' p => q Dl H' (fresh_back e1 p.1) (e1.trans p.2.1) (by rw [← given_all]; exact p.2.2))⟩
theorem ev_call3 {R : Hp → List V → V → Prop} {sp3 : Sp} {ta3 : TA} {ws : List V} {x y z : V} (h1 : Ev t1 σ H x) (h2 : Ev t2 σ H y) (ha : EvA ta3 σ H ws) (h3 : ∀ H1, Ex H H1 → ∀ Q3 : VK, (∀ v H2, Ex H1 H2 → R H2 [x, y, v] z → Q3 v H2) → sp3 (ws ++ []) H1 Q3 E0) :
    Ev (tCall (spR R) [] E0 (tCons t1 (tCons t2 (tCons (tCall sp3 [] E0 ta3) tNil)))) σ H z := fun H1 e Q q =>
  h1 H1 e _ fun H2 e2 => h2 H2 (e.trans e2) _ fun H3 e3 => ha H3 (e.trans (e2.trans e3)) (fun us H4 => sp3 (us ++ []) H4 _ E0) fun H4 e4 => h3 H4 (e.trans (e2.trans (e3.trans e4))) _ fun v H5 e5 r => ⟨z, r, fun H6 e6 => q H6 (e2.trans (e3.trans (e4.trans (e5.trans e6))))⟩
end
end RU

namespace LW
open PySem PySem.Spec PyProof.Rows L2 Evl HB HS MB HW HM HI PI MC HJ HG PS PT GX MX RH DC RP RQ RM RL
def topS (i : Nat) : Stmt := PySem.Challenge.pw_cuehall_k10_texts_not_read.main.body.getD i (.Pass ⟨0, 0, 0, 0⟩)
abbrev sNoText__init__ : Stmt := inClass (topS 9) 0
abbrev nsNoText__init__ : List Str := ["self", "row"]
theorem scNoText__init__ : FnScope nsNoText__init__ ["self", "row"] (defScope sNoText__init__) := ⟨rfl, rfl, rfl, by decide +kernel, rfl, by decide +kernel, by decide +kernel⟩
abbrev sis_cue : Stmt := topS 16
abbrev nsis_cue : List Str := ["thing"]
theorem scis_cue : FnScope nsis_cue ["thing"] (defScope sis_cue) := ⟨rfl, rfl, rfl, by decide +kernel, rfl, by decide +kernel, by decide +kernel⟩
abbrev sis_lamp : Stmt := topS 17
abbrev nsis_lamp : List Str := ["thing", "sign"]
theorem scis_lamp : FnScope nsis_lamp ["thing"] (defScope sis_lamp) := ⟨rfl, rfl, rfl, by decide +kernel, rfl, by decide +kernel, by decide +kernel⟩
abbrev sis_level : Stmt := topS 18
abbrev nsis_level : List Str := ["thing"]
theorem scis_level : FnScope nsis_level ["thing"] (defScope sis_level) := ⟨rfl, rfl, rfl, by decide +kernel, rfl, by decide +kernel, by decide +kernel⟩
abbrev sis_fade : Stmt := topS 19
abbrev nsis_fade : List Str := ["thing"]
theorem scis_fade : FnScope nsis_fade ["thing"] (defScope sis_fade) := ⟨rfl, rfl, rfl, by decide +kernel, rfl, by decide +kernel, by decide +kernel⟩
abbrev s_is_number : Stmt := topS 20
abbrev ns_is_number : List Str := ["thing", "lowest", "highest"]
theorem sc_is_number : FnScope ns_is_number ["thing", "lowest", "highest"] (defScope s_is_number) := ⟨rfl, rfl, rfl, by decide +kernel, rfl, by decide +kernel, by decide +kernel⟩
abbrev s_is_small_letter : Stmt := topS 21
abbrev ns_is_small_letter : List Str := ["sign"]
theorem sc_is_small_letter : FnScope ns_is_small_letter ["sign"] (defScope s_is_small_letter) := ⟨rfl, rfl, rfl, by decide +kernel, rfl, by decide +kernel, by decide +kernel⟩
abbrev sCue__init__ : Stmt := inClass (topS 24) 0
abbrev nsCue__init__ : List Str := ["self", "up", "down", "fresh"]
theorem scCue__init__ : FnScope nsCue__init__ ["self", "up", "down", "fresh"] (defScope sCue__init__) := ⟨rfl, rfl, rfl, by decide +kernel, rfl, by decide +kernel, by decide +kernel⟩
abbrev sCuekept : Stmt := inClass (topS 24) 1
abbrev nsCuekept : List Str := ["self", "levels"]
theorem scCuekept : FnScope nsCuekept ["self", "levels"] (defScope sCuekept) := ⟨rfl, rfl, rfl, by decide +kernel, rfl, by decide +kernel, by decide +kernel⟩
abbrev sPlay__init__ : Stmt := inClass (topS 25) 0
abbrev nsPlay__init__ : List Str := ["self"]
theorem scPlay__init__ : FnScope nsPlay__init__ ["self"] (defScope sPlay__init__) := ⟨rfl, rfl, rfl, by decide +kernel, rfl, by decide +kernel, by decide +kernel⟩
abbrev sPlayput : Stmt := inClass (topS 25) 1
abbrev nsPlayput : List Str := ["self", "number", "up", "down", "fresh"]
theorem scPlayput : FnScope nsPlayput ["self", "number", "up", "down", "fresh"] (defScope sPlayput) := ⟨rfl, rfl, rfl, by decide +kernel, rfl, by decide +kernel, by decide +kernel⟩
abbrev sPlaytell : Stmt := inClass (topS 25) 2
abbrev nsPlaytell : List Str := ["self", "number", "lamp", "level", "cue"]
theorem scPlaytell : FnScope nsPlaytell ["self", "number", "lamp", "level"] (defScope sPlaytell) := ⟨rfl, rfl, rfl, by decide +kernel, rfl, by decide +kernel, by decide +kernel⟩
abbrev sPlayuntell : Stmt := inClass (topS 25) 3
abbrev nsPlayuntell : List Str := ["self", "number", "lamp", "cue"]
theorem scPlayuntell : FnScope nsPlayuntell ["self", "number", "lamp"] (defScope sPlayuntell) := ⟨rfl, rfl, rfl, by decide +kernel, rfl, by decide +kernel, by decide +kernel⟩
abbrev sPlayonly : Stmt := inClass (topS 25) 4
abbrev nsPlayonly : List Str := ["self", "number", "lamp", "level", "held"]
theorem scPlayonly : FnScope nsPlayonly ["self", "number", "lamp", "level"] (defScope sPlayonly) := ⟨rfl, rfl, rfl, by decide +kernel, rfl, by decide +kernel, by decide +kernel⟩
abbrev sPlaycut : Stmt := inClass (topS 25) 5
abbrev nsPlaycut : List Str := ["self", "number"]
theorem scPlaycut : FnScope nsPlaycut ["self", "number"] (defScope sPlaycut) := ⟨rfl, rfl, rfl, by decide +kernel, rfl, by decide +kernel, by decide +kernel⟩
abbrev sPlaylift : Stmt := inClass (topS 25) 6
abbrev nsPlaylift : List Str := ["self", "number", "held"]
theorem scPlaylift : FnScope nsPlaylift ["self", "number"] (defScope sPlaylift) := ⟨rfl, rfl, rfl, by decide +kernel, rfl, by decide +kernel, by decide +kernel⟩
abbrev sPlaynumbers : Stmt := inClass (topS 25) 7
abbrev nsPlaynumbers : List Str := ["self"]
theorem scPlaynumbers : FnScope nsPlaynumbers ["self"] (defScope sPlaynumbers) := ⟨rfl, rfl, rfl, by decide +kernel, rfl, by decide +kernel, by decide +kernel⟩
abbrev sPlaycue : Stmt := inClass (topS 25) 8
abbrev nsPlaycue : List Str := ["self", "number", "cue", "words", "lamp"]
theorem scPlaycue : FnScope nsPlaycue ["self", "number"] (defScope sPlaycue) := ⟨rfl, rfl, rfl, by decide +kernel, rfl, by decide +kernel, by decide +kernel⟩
abbrev sPlaylook : Stmt := inClass (topS 25) 9
abbrev nsPlaylook : List Str := ["self", "number", "levels", "lamp"]
theorem scPlaylook : FnScope nsPlaylook ["self", "number"] (defScope sPlaylook) := ⟨rfl, rfl, rfl, by decide +kernel, rfl, by decide +kernel, by decide +kernel⟩
abbrev sPlaylevel : Stmt := inClass (topS 25) 10
abbrev nsPlaylevel : List Str := ["self", "number", "lamp", "levels"]
theorem scPlaylevel : FnScope nsPlaylevel ["self", "number", "lamp"] (defScope sPlaylevel) := ⟨rfl, rfl, rfl, by decide +kernel, rfl, by decide +kernel, by decide +kernel⟩
abbrev sPlayspare : Stmt := inClass (topS 25) 11
abbrev nsPlayspare : List Str := ["self"]
theorem scPlayspare : FnScope nsPlayspare ["self"] (defScope sPlayspare) := ⟨rfl, rfl, rfl, by decide +kernel, rfl, by decide +kernel, by decide +kernel⟩
abbrev sPlayleast : Stmt := inClass (topS 25) 12
abbrev nsPlayleast : List Str := ["self"]
theorem scPlayleast : FnScope nsPlayleast ["self"] (defScope sPlayleast) := ⟨rfl, rfl, rfl, by decide +kernel, rfl, by decide +kernel, by decide +kernel⟩
abbrev sPlay_cue_of : Stmt := inClass (topS 25) 13
abbrev nsPlay_cue_of : List Str := ["self", "number"]
theorem scPlay_cue_of : FnScope nsPlay_cue_of ["self", "number"] (defScope sPlay_cue_of) := ⟨rfl, rfl, rfl, by decide +kernel, rfl, by decide +kernel, by decide +kernel⟩
abbrev sPlay_levels_at : Stmt := inClass (topS 25) 14
abbrev nsPlay_levels_at : List Str := ["self", "number", "levels", "other", "cue"]
theorem scPlay_levels_at : FnScope nsPlay_levels_at ["self", "number"] (defScope sPlay_levels_at) := ⟨rfl, rfl, rfl, by decide +kernel, rfl, by decide +kernel, by decide +kernel⟩
abbrev sPlay_behind : Stmt := inClass (topS 25) 15
abbrev nsPlay_behind : List Str := ["self", "number", "other"]
theorem scPlay_behind : FnScope nsPlay_behind ["self", "number"] (defScope sPlay_behind) := ⟨rfl, rfl, rfl, by decide +kernel, rfl, by decide +kernel, by decide +kernel⟩
abbrev sPlay_look_behind : Stmt := inClass (topS 25) 16
abbrev nsPlay_look_behind : List Str := ["self", "number", "behind"]
theorem scPlay_look_behind : FnScope nsPlay_look_behind ["self", "number"] (defScope sPlay_look_behind) := ⟨rfl, rfl, rfl, by decide +kernel, rfl, by decide +kernel, by decide +kernel⟩
abbrev sPlay_hold_behind : Stmt := inClass (topS 25) 17
abbrev nsPlay_hold_behind : List Str := ["self", "number", "held", "behind", "now", "lamp", "level"]
theorem scPlay_hold_behind : FnScope nsPlay_hold_behind ["self", "number", "held"] (defScope sPlay_hold_behind) := ⟨rfl, rfl, rfl, by decide +kernel, rfl, by decide +kernel, by decide +kernel⟩
abbrev sread : Stmt := topS 31
abbrev nsread : List Str := ["text", "reader", "rows", "last", "at"]
theorem scread : FnScope nsread ["text"] (defScope sread) := ⟨rfl, rfl, rfl, by decide +kernel, rfl, by decide +kernel, by decide +kernel⟩
abbrev sReader__init__ : Stmt := inClass (topS 32) 0
abbrev nsReader__init__ : List Str := ["self"]
theorem scReader__init__ : FnScope nsReader__init__ ["self"] (defScope sReader__init__) := ⟨rfl, rfl, rfl, by decide +kernel, rfl, by decide +kernel, by decide +kernel⟩
abbrev sReadertakes : Stmt := inClass (topS 32) 1
abbrev nsReadertakes : List Str := ["self", "row", "words"]
theorem scReadertakes : FnScope nsReadertakes ["self", "row"] (defScope sReadertakes) := ⟨rfl, rfl, rfl, by decide +kernel, rfl, by decide +kernel, by decide +kernel⟩
abbrev sReader_takes_cue : Stmt := inClass (topS 32) 2
abbrev nsReader_takes_cue : List Str := ["self", "words", "fresh", "number"]
theorem scReader_takes_cue : FnScope nsReader_takes_cue ["self", "words", "fresh"] (defScope sReader_takes_cue) := ⟨rfl, rfl, rfl, by decide +kernel, rfl, by decide +kernel, by decide +kernel⟩
abbrev sReader_takes_word : Stmt := inClass (topS 32) 3
abbrev nsReader_takes_word : List Str := ["self", "lamp", "level"]
theorem scReader_takes_word : FnScope nsReader_takes_word ["self", "lamp", "level"] (defScope sReader_takes_word) := ⟨rfl, rfl, rfl, by decide +kernel, rfl, by decide +kernel, by decide +kernel⟩
abbrev s_number_of : Stmt := topS 33
abbrev ns_number_of : List Str := ["word", "sign"]
theorem sc_number_of : FnScope ns_number_of ["word"] (defScope s_number_of) := ⟨rfl, rfl, rfl, by decide +kernel, rfl, by decide +kernel, by decide +kernel⟩
abbrev s_is_figure : Stmt := topS 34
abbrev ns_is_figure : List Str := ["sign"]
theorem sc_is_figure : FnScope ns_is_figure ["sign"] (defScope s_is_figure) := ⟨rfl, rfl, rfl, by decide +kernel, rfl, by decide +kernel, by decide +kernel⟩
abbrev s_law_mixed : Stmt := topS 36
abbrev ns_law_mixed : List Str := ["_law_cell_here", "_law_k", "_law_one"]
theorem sc_law_mixed : FnScope ns_law_mixed ["_law_cell_here", "_law_k"] (defScope s_law_mixed) := ⟨rfl, rfl, rfl, by decide +kernel, rfl, by decide +kernel, by decide +kernel⟩
abbrev s_law_cell : Stmt := topS 37
abbrev ns_law_cell : List Str := ["_law_script", "_law_k"]
theorem sc_law_cell : FnScope ns_law_cell ["_law_script", "_law_k"] (defScope s_law_cell) := ⟨rfl, rfl, rfl, by decide +kernel, rfl, by decide +kernel, by decide +kernel⟩
abbrev s_law_lamps : Stmt := topS 38
abbrev ns_law_lamps : List Str := ["_law_cell_here", "_law_letters", "_law_size", "_law_base", "_law_spot", "_law_found", "_law_k", "_law_sign"]
theorem sc_law_lamps : FnScope ns_law_lamps ["_law_cell_here"] (defScope s_law_lamps) := ⟨rfl, rfl, rfl, by decide +kernel, rfl, by decide +kernel, by decide +kernel⟩
abbrev s_law_numbers : Stmt := topS 39
abbrev ns_law_numbers : List Str := ["_law_cell_here", "_law_one"]
theorem sc_law_numbers : FnScope ns_law_numbers ["_law_cell_here"] (defScope s_law_numbers) := ⟨rfl, rfl, rfl, by decide +kernel, rfl, by decide +kernel, by decide +kernel⟩
abbrev s_law_level : Stmt := topS 40
abbrev ns_law_level : List Str := ["_law_model", "_law_number", "_law_lamp", "_law_one"]
theorem sc_law_level : FnScope ns_law_level ["_law_model", "_law_number", "_law_lamp"] (defScope s_law_level) := ⟨rfl, rfl, rfl, by decide +kernel, rfl, by decide +kernel, by decide +kernel⟩
abbrev s_law_look : Stmt := topS 41
abbrev ns_law_look : List Str := ["_law_model", "_law_number", "_law_lamps_here", "_law_found", "_law_lamp", "_law_level_here"]
theorem sc_law_look : FnScope ns_law_look ["_law_model", "_law_number", "_law_lamps_here"] (defScope s_law_look) := ⟨rfl, rfl, rfl, by decide +kernel, rfl, by decide +kernel, by decide +kernel⟩
abbrev s_law_whole : Stmt := topS 42
abbrev ns_law_whole : List Str := ["_law_found"]
theorem sc_law_whole : FnScope ns_law_whole ["_law_found"] (defScope s_law_whole) := ⟨rfl, rfl, rfl, by decide +kernel, rfl, by decide +kernel, by decide +kernel⟩
abbrev s_law_same : Stmt := topS 43
abbrev ns_law_same : List Str := ["_law_found", "_law_due", "_law_one"]
theorem sc_law_same : FnScope ns_law_same ["_law_found", "_law_due"] (defScope s_law_same) := ⟨rfl, rfl, rfl, by decide +kernel, rfl, by decide +kernel, by decide +kernel⟩
abbrev s_law_cue_right : Stmt := topS 44
abbrev ns_law_cue_right : List Str := ["_law_play", "_law_model", "_law_number", "_law_found", "_law_up", "_law_down", "_law_fresh", "_law_words", "_law_lamp"]
theorem sc_law_cue_right : FnScope ns_law_cue_right ["_law_play", "_law_model", "_law_number"] (defScope s_law_cue_right) := ⟨rfl, rfl, rfl, by decide +kernel, rfl, by decide +kernel, by decide +kernel⟩
abbrev s_law_stands : Stmt := topS 45
abbrev ns_law_stands : List Str := ["_law_play", "_law_model", "_law_lamps_here", "_law_number", "_law_due", "_law_lamp"]
theorem sc_law_stands : FnScope ns_law_stands ["_law_play", "_law_model", "_law_lamps_here"] (defScope s_law_stands) := ⟨rfl, rfl, rfl, by decide +kernel, rfl, by decide +kernel, by decide +kernel⟩
abbrev s_law_hold : Stmt := topS 46
abbrev ns_law_hold : List Str := ["_law_model", "_law_number", "_law_lamp", "_law_due"]
theorem sc_law_hold : FnScope ns_law_hold ["_law_model", "_law_number", "_law_lamp", "_law_due"] (defScope s_law_hold) := ⟨rfl, rfl, rfl, by decide +kernel, rfl, by decide +kernel, by decide +kernel⟩
abbrev s_law_behind : Stmt := topS 47
abbrev ns_law_behind : List Str := ["_law_model", "_law_number", "_law_some", "_law_one"]
theorem sc_law_behind : FnScope ns_law_behind ["_law_model", "_law_number"] (defScope s_law_behind) := ⟨rfl, rfl, rfl, by decide +kernel, rfl, by decide +kernel, by decide +kernel⟩
abbrev s_law_put : Stmt := topS 48
abbrev ns_law_put : List Str := ["_law_play", "_law_model", "_law_number", "_law_mix", "_law_up", "_law_down", "_law_fresh"]
theorem sc_law_put : FnScope ns_law_put ["_law_play", "_law_model", "_law_number", "_law_mix"] (defScope s_law_put) := ⟨rfl, rfl, rfl, by decide +kernel, rfl, by decide +kernel, by decide +kernel⟩
abbrev s_law_only : Stmt := topS 49
abbrev ns_law_only : List Str := ["_law_play", "_law_model", "_law_number", "_law_lamp", "_law_level_here", "_law_after", "_law_due"]
theorem sc_law_only : FnScope ns_law_only ["_law_play", "_law_model", "_law_number", "_law_lamp", "_law_level_here"] (defScope s_law_only) := ⟨rfl, rfl, rfl, by decide +kernel, rfl, by decide +kernel, by decide +kernel⟩
abbrev s_law_lift : Stmt := topS 50
abbrev ns_law_lift : List Str := ["_law_play", "_law_model", "_law_number", "_law_lamps_here", "_law_after", "_law_lamp", "_law_dues", "_law_due"]
theorem sc_law_lift : FnScope ns_law_lift ["_law_play", "_law_model", "_law_number", "_law_lamps_here"] (defScope s_law_lift) := ⟨rfl, rfl, rfl, by decide +kernel, rfl, by decide +kernel, by decide +kernel⟩
abbrev s_law_done : Stmt := topS 51
abbrev ns_law_done : List Str := ["_law_play", "_law_model", "_law_lamps_here", "_law_numbers_here", "_law_mix", "_law_number", "_law_lamp", "_law_level_here", "_law_way"]
theorem sc_law_done : FnScope ns_law_done ["_law_play", "_law_model", "_law_lamps_here", "_law_numbers_here", "_law_mix"] (defScope s_law_done) := ⟨rfl, rfl, rfl, by decide +kernel, rfl, by decide +kernel, by decide +kernel⟩
abbrev s_law_built : Stmt := topS 52
abbrev ns_law_built : List Str := ["_law_script", "_law_first", "_law_many", "_law_lamps_here", "_law_numbers_here", "_law_play", "_law_model", "_law_k", "_law_mix"]
theorem sc_law_built : FnScope ns_law_built ["_law_script", "_law_first", "_law_many"] (defScope s_law_built) := ⟨rfl, rfl, rfl, by decide +kernel, rfl, by decide +kernel, by decide +kernel⟩
abbrev s_law_class : Stmt := topS 53
abbrev ns_law_class : List Str := ["_law_e", "_law_some"]
theorem sc_law_class : FnScope ns_law_class ["_law_e"] (defScope s_law_class) := ⟨rfl, rfl, rfl, by decide +kernel, rfl, by decide +kernel, by decide +kernel⟩
abbrev s_law_number_in : Stmt := topS 54
abbrev ns_law_number_in : List Str := ["_law_word", "_law_sign"]
theorem sc_law_number_in : FnScope ns_law_number_in ["_law_word"] (defScope s_law_number_in) := ⟨rfl, rfl, rfl, by decide +kernel, rfl, by decide +kernel, by decide +kernel⟩
abbrev s_law_cue_in : Stmt := topS 55
abbrev ns_law_cue_in : List Str := ["_law_words", "_law_model", "_law_numbers_here", "_law_word"]
theorem sc_law_cue_in : FnScope ns_law_cue_in ["_law_words", "_law_model"] (defScope s_law_cue_in) := ⟨rfl, rfl, rfl, by decide +kernel, rfl, by decide +kernel, by decide +kernel⟩
abbrev s_law_word_in : Stmt := topS 56
abbrev ns_law_word_in : List Str := ["_law_words", "_law_model", "_law_lamp", "_law_others", "_law_level_here", "_law_told", "_law_sign", "_law_one"]
theorem sc_law_word_in : FnScope ns_law_word_in ["_law_words", "_law_model"] (defScope s_law_word_in) := ⟨rfl, rfl, rfl, by decide +kernel, rfl, by decide +kernel, by decide +kernel⟩
abbrev s_law_read : Stmt := topS 57
abbrev ns_law_read : List Str := ["_law_text_here", "_law_model", "_law_rows", "_law_place", "_law_row", "_law_words", "_law_good"]
theorem sc_law_read : FnScope ns_law_read ["_law_text_here"] (defScope s_law_read) := ⟨rfl, rfl, rfl, by decide +kernel, rfl, by decide +kernel, by decide +kernel⟩
abbrev s_law_text : Stmt := topS 58
abbrev ns_law_text : List Str := ["_law_model", "_law_rows", "_law_number", "_law_up", "_law_down", "_law_fresh", "_law_words", "_law_row", "_law_lamp"]
theorem sc_law_text : FnScope ns_law_text ["_law_model"] (defScope s_law_text) := ⟨rfl, rfl, rfl, by decide +kernel, rfl, by decide +kernel, by decide +kernel⟩
abbrev s_law_bad : Stmt := topS 59
abbrev ns_law_bad : List Str := ["_law_mix", "_law_some"]
theorem sc_law_bad : FnScope ns_law_bad ["_law_mix"] (defScope s_law_bad) := ⟨rfl, rfl, rfl, by decide +kernel, rfl, by decide +kernel, by decide +kernel⟩
abbrev s_law_changed : Stmt := topS 60
abbrev ns_law_changed : List Str := ["_law_text_here", "_law_mix", "_law_rows", "_law_at", "_law_way", "_law_spot", "_law_sign"]
theorem sc_law_changed : FnScope ns_law_changed ["_law_text_here", "_law_mix"] (defScope s_law_changed) := ⟨rfl, rfl, rfl, by decide +kernel, rfl, by decide +kernel, by decide +kernel⟩
abbrev s_law_tried : Stmt := topS 61
abbrev ns_law_tried : List Str := ["_law_text_here", "_law_caught", "_law_found", "_law_e"]
theorem sc_law_tried : FnScope ns_law_tried ["_law_text_here"] (defScope s_law_tried) := ⟨rfl, rfl, rfl, by decide +kernel, rfl, by decide +kernel, by decide +kernel⟩
abbrev s_law_told_lamps : Stmt := topS 62
abbrev ns_law_told_lamps : List Str := ["_law_model", "_law_found", "_law_number", "_law_lamp"]
theorem sc_law_told_lamps : FnScope ns_law_told_lamps ["_law_model"] (defScope s_law_told_lamps) := ⟨rfl, rfl, rfl, by decide +kernel, rfl, by decide +kernel, by decide +kernel⟩
abbrev slaw : Stmt := topS 63
abbrev nslaw : List Str := ["_law_script", "_law_k", "_law_cell_here", "_law_play", "_law_model", "_law_lamps_here", "_law_numbers_here", "_law_mix", "_law_text_here", "_law_due", "_law_found", "_law_one"]
theorem sclaw : FnScope nslaw ["_law_script"] (defScope slaw) := ⟨rfl, rfl, rfl, by decide +kernel, rfl, by decide +kernel, by decide +kernel⟩
structure Top (K : PySem.W.Frag) (mg : Str → Option Value) : Prop where
  d_is_cue : Df K mg "is_cue" "is_cue" sis_cue ["thing"] []
  d_is_level : Df K mg "is_level" "is_level" sis_level ["thing"] []
  d_is_fade : Df K mg "is_fade" "is_fade" sis_fade ["thing"] []
  d__is_number : Df K mg "_is_number" "_is_number" s_is_number ["thing", "lowest", "highest"] []
  d__is_small_letter : Df K mg "_is_small_letter" "_is_small_letter" s_is_small_letter ["sign"] []
  d_read : Df K mg "read" "read" sread ["text"] []
  d__is_figure : Df K mg "_is_figure" "_is_figure" s_is_figure ["sign"] []
  d__law_mixed : Df K mg "_law_mixed" "_law_mixed" s_law_mixed ["_law_cell_here", "_law_k"] []
  d__law_cell : Df K mg "_law_cell" "_law_cell" s_law_cell ["_law_script", "_law_k"] []
  d__law_lamps : Df K mg "_law_lamps" "_law_lamps" s_law_lamps ["_law_cell_here"] []
  d__law_numbers : Df K mg "_law_numbers" "_law_numbers" s_law_numbers ["_law_cell_here"] []
  d__law_level : Df K mg "_law_level" "_law_level" s_law_level ["_law_model", "_law_number", "_law_lamp"] []
  d__law_look : Df K mg "_law_look" "_law_look" s_law_look ["_law_model", "_law_number", "_law_lamps_here"] []
  d__law_whole : Df K mg "_law_whole" "_law_whole" s_law_whole ["_law_found"] []
  d__law_same : Df K mg "_law_same" "_law_same" s_law_same ["_law_found", "_law_due"] []
  d__law_cue_right : Df K mg "_law_cue_right" "_law_cue_right" s_law_cue_right ["_law_play", "_law_model", "_law_number"] []
  d__law_stands : Df K mg "_law_stands" "_law_stands" s_law_stands ["_law_play", "_law_model", "_law_lamps_here"] []
  d__law_hold : Df K mg "_law_hold" "_law_hold" s_law_hold ["_law_model", "_law_number", "_law_lamp", "_law_due"] []
  d__law_behind : Df K mg "_law_behind" "_law_behind" s_law_behind ["_law_model", "_law_number"] []
  d__law_put : Df K mg "_law_put" "_law_put" s_law_put ["_law_play", "_law_model", "_law_number", "_law_mix"] []
  d__law_only : Df K mg "_law_only" "_law_only" s_law_only ["_law_play", "_law_model", "_law_number", "_law_lamp", "_law_level_here"] []
  d__law_lift : Df K mg "_law_lift" "_law_lift" s_law_lift ["_law_play", "_law_model", "_law_number", "_law_lamps_here"] []
  d__law_done : Df K mg "_law_done" "_law_done" s_law_done ["_law_play", "_law_model", "_law_lamps_here", "_law_numbers_here", "_law_mix"] []
  d__law_built : Df K mg "_law_built" "_law_built" s_law_built ["_law_script", "_law_first", "_law_many"] []
  d__law_class : Df K mg "_law_class" "_law_class" s_law_class ["_law_e"] []
  d__law_number_in : Df K mg "_law_number_in" "_law_number_in" s_law_number_in ["_law_word"] []
  d__law_cue_in : Df K mg "_law_cue_in" "_law_cue_in" s_law_cue_in ["_law_words", "_law_model"] []
  d__law_word_in : Df K mg "_law_word_in" "_law_word_in" s_law_word_in ["_law_words", "_law_model"] []
  d__law_read : Df K mg "_law_read" "_law_read" s_law_read ["_law_text_here"] []
  d__law_text : Df K mg "_law_text" "_law_text" s_law_text ["_law_model"] []
  d__law_bad : Df K mg "_law_bad" "_law_bad" s_law_bad ["_law_mix"] []
  d__law_changed : Df K mg "_law_changed" "_law_changed" s_law_changed ["_law_text_here", "_law_mix"] []
  d__law_tried : Df K mg "_law_tried" "_law_tried" s_law_tried ["_law_text_here"] []
  d__law_told_lamps : Df K mg "_law_told_lamps" "_law_told_lamps" s_law_told_lamps ["_law_model"] []
  z_len : mg "len" = none
  z_isinstance : mg "isinstance" = none
  z_type : mg "type" = none
  z_sorted : mg "sorted" = none
  z_list : mg "list" = none
  z_dict : mg "dict" = none
  z_str : mg "str" = none
  z_int : mg "int" = none
  z_all : mg "all" = none
  z_max : mg "max" = none
  z_min : mg "min" = none
  z_range : mg "range" = none
  z_enumerate : mg "enumerate" = none
  z_zip : mg "zip" = none
  z_tuple : mg "tuple" = none
  z_bool : mg "bool" = none
  z_ValueError : mg "ValueError" = none
  c_FIRST_CUE : ∃ t, mg "FIRST_CUE" = some (.int (1) t)
  c_LAST_CUE : ∃ t, mg "LAST_CUE" = some (.int (999999) t)
  c_LONGEST_LAMP : ∃ t, mg "LONGEST_LAMP" = some (.int (8) t)
  c_FULL_LEVEL : ∃ t, mg "FULL_LEVEL" = some (.int (100) t)
  c_LONGEST_FADE : ∃ t, mg "LONGEST_FADE" = some (.int (6000) t)
  c_MOST_CUES : ∃ t, mg "MOST_CUES" = some (.int (100) t)
  c_MOST_FIGURES : ∃ t, mg "MOST_FIGURES" = some (.int (6) t)
  c_NO_NUMBER : ∃ t, mg "NO_NUMBER" = some (.int (-1) t)
  s_CUE_WORD : ∃ t, mg "CUE_WORD" = some (.str "cue" t)
  s_FRESH_WORD : ∃ t, mg "FRESH_WORD" = some (.str "fresh" t)
structure Prg (K : PySem.W.Frag) (mg : Str → Option Value) (eNoCue eTaken eTooMany eNoLamp eNoLevel eNoTime eNoText cCue cPlay cReader : Addr) : Prop where
  e_NoCue : ExC K mg "NoCue" eNoCue
  e_Taken : ExC K mg "Taken" eTaken
  e_TooMany : ExC K mg "TooMany" eTooMany
  e_NoLamp : ExC K mg "NoLamp" eNoLamp
  e_NoLevel : ExC K mg "NoLevel" eNoLevel
  e_NoTime : ExC K mg "NoTime" eNoTime
  k_Cue : Cls K cCue
  g_Cue : mg "Cue" = some (.ref cCue)
  i_Cue : CM K cCue "Cue.__init__" sCue__init__ ["self", "up", "down", "fresh"]
  m_Cue_kept : MD K cCue "kept" "Cue.kept" sCuekept ["self", "levels"]
  n_Cue_up : NoAttr K cCue "up"
  n_Cue_down : NoAttr K cCue "down"
  n_Cue_fresh : NoAttr K cCue "fresh"
  n_Cue_words : NoAttr K cCue "words"
  k_Play : Cls K cPlay
  g_Play : mg "Play" = some (.ref cPlay)
  i_Play : CM K cPlay "Play.__init__" sPlay__init__ ["self"]
  m_Play_put : MDD K cPlay "put" "Play.put" sPlayput [.int 0, .int 0, .bl false]
  m_Play_tell : MD K cPlay "tell" "Play.tell" sPlaytell ["self", "number", "lamp", "level"]
  m_Play_untell : MD K cPlay "untell" "Play.untell" sPlayuntell ["self", "number", "lamp"]
  m_Play_only : MD K cPlay "only" "Play.only" sPlayonly ["self", "number", "lamp", "level"]
  m_Play_cut : MD K cPlay "cut" "Play.cut" sPlaycut ["self", "number"]
  m_Play_lift : MD K cPlay "lift" "Play.lift" sPlaylift ["self", "number"]
  m_Play_numbers : MD K cPlay "numbers" "Play.numbers" sPlaynumbers ["self"]
  m_Play_cue : MD K cPlay "cue" "Play.cue" sPlaycue ["self", "number"]
  m_Play_look : MD K cPlay "look" "Play.look" sPlaylook ["self", "number"]
  m_Play_level : MD K cPlay "level" "Play.level" sPlaylevel ["self", "number", "lamp"]
  m_Play_spare : MD K cPlay "spare" "Play.spare" sPlayspare ["self"]
  m_Play_least : MD K cPlay "least" "Play.least" sPlayleast ["self"]
  m_Play__cue_of : MD K cPlay "_cue_of" "Play._cue_of" sPlay_cue_of ["self", "number"]
  m_Play__levels_at : MD K cPlay "_levels_at" "Play._levels_at" sPlay_levels_at ["self", "number"]
  m_Play__behind : MD K cPlay "_behind" "Play._behind" sPlay_behind ["self", "number"]
  m_Play__look_behind : MD K cPlay "_look_behind" "Play._look_behind" sPlay_look_behind ["self", "number"]
  m_Play__hold_behind : MD K cPlay "_hold_behind" "Play._hold_behind" sPlay_hold_behind ["self", "number", "held"]
  n_Play__cues : NoAttr K cPlay "_cues"
  k_Reader : Cls K cReader
  g_Reader : mg "Reader" = some (.ref cReader)
  i_Reader : CM K cReader "Reader.__init__" sReader__init__ ["self"]
  m_Reader_takes : MD K cReader "takes" "Reader.takes" sReadertakes ["self", "row"]
  m_Reader__takes_cue : MD K cReader "_takes_cue" "Reader._takes_cue" sReader_takes_cue ["self", "words", "fresh"]
  m_Reader__takes_word : MD K cReader "_takes_word" "Reader._takes_word" sReader_takes_word ["self", "lamp", "level"]
  n_Reader_play : NoAttr K cReader "play"
  n_Reader_number : NoAttr K cReader "number"
  n_Reader_lamp : NoAttr K cReader "lamp"
/-- is_lamp, its generator expression's code and table -/
structure LampT (K : PySem.W.Frag) (mg : Str → Option Value) (base : Heap) (c Pt fs : Addr) (fds : FuncData) : Prop where
  d : DfC K mg "is_lamp" "is_lamp" sis_lamp ["thing"] c
  tb : GxR.TabB base mg c Pt
  sm : Fun K "_is_small_letter" "_is_small_letter" s_is_small_letter fs fds
  ms : mg "_is_small_letter" = some (.ref fs)
section
variable {P : Program} {w : World} {K : PySem.W.Frag} {mg : Str → Option Value} {base : Heap} {eNoCue eTaken eTooMany eNoLamp eNoLevel eNoTime eNoText cCue cPlay cReader c Pt fs : Addr} {fds : FuncData}
/-! ### names -/
theorem ok__is_number (T : Top K mg) : Dn P w K mg base "_is_number" 1 ["thing", "lowest", "highest"] (spR (RNum K)) := by
  refine T.d__is_number.ok sc_is_number (fun vs H Q E h => ?_) (fun f cdv A outer s H vs Q E hr h => ?_)
  · obtain ⟨z, ⟨x, lo, hi, ty, rfl, _⟩, _⟩ := h
    rfl
  · obtain ⟨z, ⟨x, lo, hi, ty, rfl, ht, rfl⟩, q⟩ := h
    have hu := hu_of hr
    refine ⟨_, (pss_cons (ps_if (pt_cmpR op_notTyB (pe_callTy call_type1 (by rfl) T.z_type (by decide +kernel) (pa_cons (pv 0) pa_nil)) (pe_ty (T := "int") T.z_int (by rfl) (by decide +kernel)) (nomark _))
        (pss_one (ps_ret pe_bl))
        pss_nil)
        (pss_one (ps_ret (pe_and (pe_cmpR op_le (pv 1) (pv 0) (nomark _)) (pe_one (pe_cmpR op_le (pv 0) (pv 2) (nomark _))))))), ?_⟩
    refine q_when (et_test (ev_op (ev_type (ev_var rfl) ht) ev_c rv_NT)) (fun hb H1 e1 => s_ret ev_c fun H2 e2 => ?_) (fun hb H1 e1 => ?_)
    · have z : numIn x lo hi = false := by
        cases ht with
        | int i => exact absurd hb (by decide)
        | _ => rfl
      rw [z] at q
      exact q.go (e1.trans e2)
    · have z : ∃ i, x = .int i := by
        cases ht with
        | int i => exact ⟨i, rfl⟩
        | _ => exact absurd hb (by decide)
      obtain ⟨i, rfl⟩ := z
      exact s_ret (ev_andV (ev_op (ev_var rfl) (ev_var rfl) rv_I0) fun _ => ev_op (ev_var rfl) (ev_var rfl) rv_I0) fun H2 e2 => q.go (e1.trans e2)
theorem ok_is_cue (T : Top K mg) : Dn P w K mg base "is_cue" 2 ["thing"] (spR (RIn K 1 999999)) := by
  refine T.d_is_cue.ok scis_cue (fun vs H Q E h => ?_) (fun f cdv A outer s H vs Q E hr h => ?_)
  · obtain ⟨z, ⟨x, ty, rfl, _⟩, _⟩ := h
    rfl
  · obtain ⟨z, ⟨x, ty, rfl, ht, rfl⟩, q⟩ := h
    refine ⟨_, (pss_one (ps_ret (pe_dn (ok__is_number T) (hr.mono (by decide)) (by rfl) (pa_cons (pv 0) (pa_cons (pe_ci T.c_FIRST_CUE (by rfl)) (pa_cons (pe_ci T.c_LAST_CUE (by rfl)) pa_nil)))))), ?_⟩
    exact s_ret (ev_callR (ea_cons (ev_var rfl) (ea_cons ev_c (ea_cons ev_c ea_nil))) fun H1 e1 => ⟨x, 1, 999999, ty, rfl, tyB_ex e1 ht, rfl⟩) fun H2 e2 => q.go e2
theorem ok_is_level (T : Top K mg) : Dn P w K mg base "is_level" 2 ["thing"] (spR (RIn K 0 100)) := by
  refine T.d_is_level.ok scis_level (fun vs H Q E h => ?_) (fun f cdv A outer s H vs Q E hr h => ?_)
  · obtain ⟨z, ⟨x, ty, rfl, _⟩, _⟩ := h
    rfl
  · obtain ⟨z, ⟨x, ty, rfl, ht, rfl⟩, q⟩ := h
    refine ⟨_, (pss_one (ps_ret (pe_dn (ok__is_number T) (hr.mono (by decide)) (by rfl) (pa_cons (pv 0) (pa_cons pe_int (pa_cons (pe_ci T.c_FULL_LEVEL (by rfl)) pa_nil)))))), ?_⟩
    exact s_ret (ev_callR (ea_cons (ev_var rfl) (ea_cons ev_c (ea_cons ev_c ea_nil))) fun H1 e1 => ⟨x, 0, 100, ty, rfl, tyB_ex e1 ht, rfl⟩) fun H2 e2 => q.go e2
theorem ok_is_fade (T : Top K mg) : Dn P w K mg base "is_fade" 2 ["thing"] (spR (RIn K 0 6000)) := by
  refine T.d_is_fade.ok scis_fade (fun vs H Q E h => ?_) (fun f cdv A outer s H vs Q E hr h => ?_)
  · obtain ⟨z, ⟨x, ty, rfl, _⟩, _⟩ := h
    rfl
  · obtain ⟨z, ⟨x, ty, rfl, ht, rfl⟩, q⟩ := h
    refine ⟨_, (pss_one (ps_ret (pe_dn (ok__is_number T) (hr.mono (by decide)) (by rfl) (pa_cons (pv 0) (pa_cons pe_int (pa_cons (pe_ci T.c_LONGEST_FADE (by rfl)) pa_nil)))))), ?_⟩
    exact s_ret (ev_callR (ea_cons (ev_var rfl) (ea_cons ev_c (ea_cons ev_c ea_nil))) fun H1 e1 => ⟨x, 0, 6000, ty, rfl, tyB_ex e1 ht, rfl⟩) fun H2 e2 => q.go e2
theorem d_small {f : Addr} {fd : FuncData} (F : Fun K "_is_small_letter" "_is_small_letter" s_is_small_letter f fd) : SmallD P w K f small := by
  intro A s c t hA hD hK hlim
  obtain ⟨oc, od, kV, doc, pm, an, cdv, ct, osl, rfl, lk, hcd⟩ := F.ex
  refine Att.call_fn (binds := [("sign", .str ⟨#[c]⟩ t)]) hK hlim lk hcd hD (.of_eq rfl) rfl (fun s1 x => ?_) rfl rfl rfl
  obtain ⟨h1, tk, e1⟩ := x.toInCall.same
  have hn := x.toInCall.ns
  have keep := x.toInCall.keep
  subst e1
  have look : (bindL (envOfC "_is_small_letter" (defScope s_is_small_letter) s.heap.objs.size f cdv).kindOf [("sign", Value.str ⟨#[c]⟩ t)] fun _ => none) "sign" = some (.str ⟨#[c]⟩ t) := rfl
  have fin : ∀ k, Keeps s { s with heap := h1, toks := k } := fun k => ⟨h1, k, rfl, keep⟩
  have name : ∀ {Q : Value → Shared → Prop} {E' : Value → Shared → Prop} {k : Nat} {pos : Pos}, Q (.str ⟨#[c]⟩ t) { s with heap := h1, toks := k } →
      wpAny (model P w) (A.deeper (envOfC "_is_small_letter" (defScope s_is_small_letter) s.heap.objs.size f cdv)) (eval (.Name "sign" pos) (envOfC "_is_small_letter" (defScope s_is_small_letter) s.heap.objs.size f cdv)) Q E' { s with heap := h1, toks := k } :=
    fun q => wpAny_Name (wpAny_loadName_local rfl rfl hn look q) (by decide)
  refine wpAny_execs_cons (wpAny_Return_some (BoolOp_and (wpAny_Compare1 (Calls.Constant_str (name (PySem.P.le_str (wpAny_truthy_bool ?_)))))))
  rw [a_le]
  by_cases h : 97 ≤ c
  · rw [decide_eq_true h]
    refine BoolOp_one (wpAny_Compare1 (name (Calls.Constant_str (PySem.P.le_str ?_))))
    rw [le_z]
    have e : small c = decide (c ≤ 122) := by unfold small; rw [decide_eq_true h]; rfl
    exact ⟨by rw [e], fin _⟩
  · rw [decide_eq_false h]
    have e : small c = false := by unfold small; rw [decide_eq_false h]; rfl
    exact ⟨by rw [e], fin _⟩
theorem ok_is_lamp (T : Top K mg) (TB : LampT K mg base c Pt fs fds) : Dn P w K mg base "is_lamp" 2 ["thing"] (spR (RLamp K Pt)) := by
  refine TB.d.ok scis_lamp (fun vs H Q E h => ?_) (fun f A outer s H vs Q E hr h => ?_)
  · obtain ⟨z, ⟨x, ty, rfl, _⟩, _⟩ := h
    rfl
  · obtain ⟨z, ⟨x, ty, rfl, ht, hz, tab, rfl⟩, q⟩ := h
    refine ⟨_, (pss_cons (ps_if (pt_cmpR op_notTyB (pe_callTy call_type1 (by rfl) T.z_type (by decide +kernel) (pa_cons (pv 0) pa_nil)) (pe_ty (T := "str") T.z_str (by rfl) (by decide +kernel)) (nomark _))
        (pss_one (ps_ret pe_bl))
        pss_nil)
        (pss_cons (ps_if (PW.pt (pw_or (pt_cmpR op_lt (pe_callB call_len_str (by rfl) T.z_len PySem.boot_len (pa_cons (pv 0) pa_nil)) pe_int (nomark _)) (pw_or1 (pt_cmpR op_gt (pe_callB call_len_str (by rfl) T.z_len PySem.boot_len (pa_cons (pv 0) pa_nil)) (pe_ci T.c_LONGEST_LAMP (by rfl)) (nomark _)))))
        (pss_one (ps_ret pe_bl))
        pss_nil)
        (pss_one (ps_ret (pe_allX (x := "sign") hr (by rfl) T.z_all TB.tb rfl (gens_mk rfl rfl (by decide +kernel) rfl rfl) (pv 0) (elt_call (d_small TB.sm) hr TB.ms TB.sm.kp rfl rfl rfl) (fun _ => rfl)))))), ?_⟩
    refine q_when (et_test (ev_op (ev_type (ev_var rfl) ht) ev_c rv_NT)) (fun hb H1 e1 => s_ret ev_c fun H2 e2 => ?_) (fun hb H1 e1 => ?_)
    · have z : lampIs x = false := by
        cases ht with
        | str i => exact absurd hb (by decide)
        | _ => rfl
      rw [z] at q
      exact q.go (e1.trans e2)
    · have z : ∃ t, x = .str t := by
        cases ht with
        | str t => exact ⟨t, rfl⟩
        | _ => exact absurd hb (by decide)
      obtain ⟨t, rfl⟩ := z
      have ht2 := hz t rfl
      refine q_when (et_or (et_test (ev_op (ev_lenS (ev_var rfl) ht2) ev_c rv_I0)) fun _ => et_test (ev_op (ev_lenS (ev_var rfl) ht2) ev_c rv_I0)) (fun hb H2 e2 => s_ret ev_c fun H3 e3 => ?_) (fun hb H2 e2 => ?_)
      · have z : lampIs (.str t) = false := by
          rw [lampIs_str]
          rcases Bool.or_eq_true _ _ ▸ hb with h | h
          · have := of_decide_eq_true h
            rw [decide_eq_false (by omega), Bool.false_and, Bool.false_and]
          · have := of_decide_eq_true h
            rw [decide_eq_false (p := t.length ≤ 8) (by omega), Bool.and_false, Bool.false_and]
        rw [z] at q
        exact q.go ((e1.trans e2).trans e3)
      · have z : lampIs (.str t) = t.cps.toList.all small := by
          obtain ⟨h1, h2⟩ := Bool.or_eq_false_iff.mp hb
          have h1 := of_decide_eq_false h1
          have h2 := of_decide_eq_false h2
          rw [lampIs_str]
          rw [decide_eq_true (by omega), decide_eq_true (p := t.length ≤ 8) (by omega), Bool.true_and, Bool.true_and]
        rw [z] at q
        exact ⟨.str t, rfl, t, rfl, (e1.trans e2) _ _ tab, q.go (e1.trans e2)⟩
/-- what the calls come to -/
theorem ev_in {lo hi : Int} {x : V} {ty : String} {σ : L2.St} {H : Hp} {te : TE} {E : XK} (h : Ev te σ H x) (ht : TyB K H x ty) : Ev (tCall (spR (RIn K lo hi)) [] E (tCons te tNil)) σ H (.bl (numIn x lo hi)) :=
  ev_callR (ea_cons h ea_nil) fun H1 e1 => ⟨x, ty, rfl, tyB_ex e1 ht, rfl⟩
theorem ev_lamp {x : V} {ty : String} {σ : L2.St} {H : Hp} {te : TE} {E : XK} (h : Ev te σ H x) (ht : TyB K H x ty) (hz : TxtOk x) (tab : TabX H Pt) : Ev (tCall (spR (RLamp K Pt)) [] E (tCons te tNil)) σ H (.bl (lampIs x)) :=
  ev_callR (ea_cons h ea_nil) fun H1 e1 => ⟨x, ty, rfl, tyB_ex e1 ht, hz, e1 _ _ tab, rfl⟩
end
end LW

namespace LW
open PySem PySem.Spec PyProof.Rows L2 Evl HB HS MB HW HM HI PI MC HJ HG PS PT GX MX RH DC RP RQ RM RL RS
section
variable {P : Program} {w : World} {K : PySem.W.Frag} {mg : Str → Option Value} {base : Heap} {eNoCue eTaken eTooMany eNoLamp eNoLevel eNoTime eNoText cCue cPlay cReader c Pt fs : Addr} {fds : FuncData}
/-! ### Cue -/
/-- Cue(up, down, fresh), at the new instance -/
def spCueI (C : Addr) : Sp := fun vs H Q _ => ∃ x up down b dx, vs = [.ref x, .int up, .int down, .bl b] ∧ H x = some (.ins C dx []) ∧
  ∀ (wa : Addr) (H1 : Hp) (r : PRow), H wa = none → r.dx = dx → r.wa = wa → (∃ n, r.c = ⟨n, up, down, b, []⟩) → H1 wa = some (.dK []) → H1 x = some (.ins C dx r.flds) → (∀ b o, H b = some o → b ≠ x → H1 b = some o) → Q .non H1
theorem okc_Cue (T : Top K mg) (G : Prg K mg eNoCue eTaken eTooMany eNoLamp eNoLevel eNoTime eNoText cCue cPlay cReader) : COk P w K mg base cCue 1 ["self", "up", "down", "fresh"] (spCueI cCue) := by
  refine G.i_Cue.ok scCue__init__ (fun vs H Q E h => ?_) (fun f cdv A outer s H vs Q E hr h => ?_)
  · obtain ⟨x, up, down, b, dx, rfl, _⟩ := h
    rfl
  · obtain ⟨x, up, down, b, dx, rfl, hx, q⟩ := h
    have hu := hu_of hr
    refine ⟨_, (pss_cons (ps_fld (pv 0) (pv 1) rfl)
        (pss_cons (ps_fld (pv 0) (pv 2) rfl)
        (pss_cons (ps_fld (pv 0) (pv 3) rfl)
        (pss_one (ps_fld (pv 0) pe_dnewK rfl))))), ?_⟩
    refine q_fld (ev_var rfl) (ev_var rfl) hx G.k_Cue G.n_Cue_up (by decide) fun H1 e1 => ?_
    refine q_fld (ev_var rfl) (ev_var rfl) upd_same G.k_Cue G.n_Cue_down len1 fun H2 e2 => ?_
    refine q_fld (ev_var rfl) (ev_var rfl) upd_same G.k_Cue G.n_Cue_fresh len2 fun H3 e3 => ?_
    refine s_fldD ed_new (fun _ _ => ev_var rfl) upd_same G.k_Cue G.n_Cue_words len3 fun wa H4 nw e4 h4 => ?_
    have old : ∀ c o, H c = some o → c ≠ x → H4 c = some o := fun c o hc ne => e4 _ _ (by rw [upd_ne ne]; exact e3 _ _ (by rw [upd_ne ne]; exact e2 _ _ (by rw [upd_ne ne]; exact e1 _ _ hc)))
    have xw : wa ≠ x := fun z => by rw [z, upd_same] at nw; cases nw
    have nw0 : H wa = none := by
      cases hq : H wa with
      | none => rfl
      | some o =>
        have hne : ∀ {G : Hp} {u : HO}, G wa = some o → (upd G x u) wa = some o := fun h => by rw [upd_ne xw]; exact h
        have := hne (u := .ins cCue dx (putF "fresh" (.bl b) (putF "down" (.int down) (putF "up" (.int up) [])))) (e3 _ _ (hne (e2 _ _ (hne (e1 _ _ hq)))))
        rw [nw] at this
        cases this
    refine q wa _ ⟨⟨0, up, down, b, []⟩, x, dx, wa⟩ nw0 rfl rfl ⟨0, rfl⟩ (by rw [upd_ne xw]; exact h4) ?_ fun c o hc ne => by rw [upd_ne ne]; exact old c o hc ne
    rw [upd_same]
    exact congrArg (fun l => some (HO.ins cCue dx l)) (flds_mk ⟨⟨0, up, down, b, []⟩, x, dx, wa⟩)
theorem okm_kept (T : Top K mg) (G : Prg K mg eNoCue eTaken eTooMany eNoLamp eNoLevel eNoTime eNoText cCue cPlay cReader) : MOk P w K mg base cCue "kept" 1 ["self", "levels"] [] (spKept cCue) := by
  refine G.m_Cue_kept.ok scCuekept (fun vs H Q E h => ?_) (fun f cdv A outer s H vs Q E hr h => ?_)
  · obtain ⟨a, b, dx, r, kvs, rfl, _⟩ := h
    rfl
  · obtain ⟨a, b, dx, r, kvs, rfl, ha, hb, q⟩ := h
    have hu := hu_of hr
    refine ⟨_, (pss_one (ps_ret (pe_ifExp (pt_val (pe_fld (pv 0) rfl)) pe_dnewK (pe_callTy call_dictD (by rfl) T.z_dict (by decide +kernel) (pa_cons (pv 1) pa_nil))))), ?_⟩
    refine s_retD (ed_if (b := r.c.fr) (et_test (ev_fld (ev_var rfl) ha G.k_Cue G.n_Cue_fresh (flds_fresh r))) (fun e => ?_) fun e => ?_) fun p H1 np e1 h1 => q p H1 np e1 h1
    · rw [if_pos e]
      exact ed_new
    · rw [if_neg (by rw [e]; decide)]
      exact ed_copy (ev_var rfl) (.inl hb)
/-! ### Play -/
theorem okm_numbers (T : Top K mg) (G : Prg K mg eNoCue eTaken eTooMany eNoLamp eNoLevel eNoTime eNoText cCue cPlay cReader) : MOk P w K mg base cPlay "numbers" 1 ["self"] [] (spNums cPlay cCue) := by
  refine G.m_Play_numbers.ok scPlaynumbers (fun vs H Q E h => ?_) (fun f cdv A outer s H vs Q E hr h => ?_)
  · obtain ⟨p, d, R, rfl, _⟩ := h
    rfl
  · obtain ⟨p, d, R, rfl, raw, q⟩ := h
    have hu := hu_of hr
    obtain ⟨dx, ob⟩ := raw.ob
    refine ⟨_, (pss_one (ps_ret (pe_callB (cr_sortD rfl) (by rfl) T.z_sorted (by decide +kernel) (pa_cons (pe_fld (pv 0) rfl) pa_nil)))), ?_⟩
    exact s_retL (el_sortK (ev_fld (ev_var rfl) ob G.k_Play G.n_Play__cues (pfs_c d)) (.inl raw.dc) (keys_pkv R)) fun p H1 np e1 h1 => q p H1 np e1 h1
theorem okm_cue_of (T : Top K mg) (G : Prg K mg eNoCue eTaken eTooMany eNoLamp eNoLevel eNoTime eNoText cCue cPlay cReader) (TB : LampT K mg base c Pt fs fds) : MOk P w K mg base cPlay "_cue_of" 3 ["self", "number"] [] (spCueOf K cPlay cCue eNoCue) := by
  refine G.m_Play__cue_of.ok scPlay_cue_of (fun vs H Q E h => ?_) (fun f cdv A outer s H vs Q E hr h => ?_)
  · obtain ⟨p, d, R, x, ty, rfl, _⟩ := h
    rfl
  · obtain ⟨p, d, R, x, ty, rfl, raw, bd, ht, hh⟩ := h
    have hu := hu_of hr
    obtain ⟨dx, ob⟩ := raw.ob
    refine ⟨_, (pss_cons (ps_if (PW.pt (pw_or (pt_not (pt_val (pe_dn (ok_is_cue T) (hr.mono (by decide)) (by rfl) (pa_cons (pv 1) pa_nil)))) (pw_or1 (pt_cmp (pc_dnotin hu (pv 1) (pe_fld (pv 0) rfl))))))
        (pss_one (ps_raiseE rfl G.e_NoCue (by rfl)))
        pss_nil)
        (pss_one (ps_ret (pe_dget hu (pe_fld (pv 0) rfl) (pv 1) (fun _ _ => rfl))))), ?_⟩
    have hc : ∀ {i : Nat} {σ : L2.St}, σ[i]? = some (some (.ref p)) → Ev (tFld K (tVar i) "_cues") σ H (.ref d) := fun g => ev_fld (ev_var g) ob G.k_Play G.n_Play__cues (pfs_c d)
    refine q_when (b := !numIn x 1 999999 || !inD R x) (et_or (et_not (et_test (ev_in (ev_var rfl) ht))) fun hx => ?_) (fun hb H1 e1 => ?_) fun hb H1 e1 => ?_
    · obtain ⟨n, rfl, _⟩ := numIn_yes (x := x) (lo := 1) (hi := 999999) (by cases hn : numIn x 1 999999 with
        | true => rfl
        | false => rw [hn] at hx; cases hx)
      exact et_B (ev_dnotin (k := .inl n) (ev_var rfl) (hc rfl) (.inl raw.dc))
    · rcases hh with ⟨r, ⟨hr0, rfl⟩, q⟩ | ⟨miss, rz⟩
      · have b1 := numIn_of (bd r hr0).1 (bd r hr0).2
        rw [b1, inD_hit raw.nd ⟨hr0, rfl⟩] at hb
        cases hb
      · exact rz.go e1
    · rcases hh with ⟨r, ⟨hr0, rfl⟩, q⟩ | ⟨miss, rz⟩
      · exact s_ret (ev_dget (k := .inl r.c.n) (Ev.mono e1 (hc rfl)) (ev_var rfl) (.inl (e1 _ _ raw.dc)) (val_row raw.nd hr0)) fun H2 e2 => q.go (e1.trans e2)
      · exfalso
        have n1 : numIn x 1 999999 = true := by
          cases hn : numIn x 1 999999 with
          | true => rfl
          | false => rw [hn] at hb; cases hb
        rw [n1, inD_miss miss] at hb
        cases hb
/-- a method of the play that begins by self._cue_of(x) -/
theorem t_cue {p d : Addr} {R : List PRow} {x : V} {ty : String} {σ : L2.St} {H : Hp} {i j : Nat} {Q : VK} {E : XK} (raw : Raw cPlay cCue H p d R) (bd : ∀ r ∈ R, 1 ≤ r.c.n ∧ r.c.n ≤ 999999) (ht : TyB K H x ty) (g0 : σ[i]? = some (some (.ref p))) (g1 : σ[j]? = some (some x))
    (h : (∃ r, Hit R x r ∧ ∀ H1, Ex H H1 → Q (.ref r.ca) H1) ∨ (Miss R x ∧ RaiseV eNoCue H E)) : tMeth cPlay "_cue_of" (spCueOf K cPlay cCue eNoCue) [] E (tVar i) (tCons (tVar j) tNil) σ H Q := by
  obtain ⟨dx, ob⟩ := raw.ob
  refine t_mo (ev_var g0) ob (pfs_no d (by decide +kernel)) (ea_cons (ev_var g1) ea_nil) fun H1 e1 => ⟨p, d, R, x, ty, rfl, raw.ex e1, bd, tyB_ex e1 ht, ?_⟩
  rcases h with ⟨r, hit, k⟩ | ⟨miss, rz⟩
  · exact .inl ⟨r, hit, fun H2 e2 => k H2 (e1.trans e2)⟩
  · exact .inr ⟨miss, rz.mono e1⟩
theorem okm_levels_at (T : Top K mg) (G : Prg K mg eNoCue eTaken eTooMany eNoLamp eNoLevel eNoTime eNoText cCue cPlay cReader) (TB : LampT K mg base c Pt fs fds) : MOk P w K mg base cPlay "_levels_at" 4 ["self", "number"] [] (spLevels K cPlay cCue eNoCue) := by
  refine G.m_Play__levels_at.ok scPlay_levels_at (fun vs H Q E h => ?_) (fun f cdv A outer s H vs Q E hr h => ?_)
  · obtain ⟨p, d, R, ls, x, ty, rfl, _⟩ := h
    rfl
  · obtain ⟨p, d, R, ls, x, ty, rfl, raw, ⟨b1, b2, b3, b4⟩, ht, hh⟩ := h
    have hu := hu_of hr
    refine ⟨_, (pss_cons (ps_expr (pe_mo (okm_cue_of T G TB) G.k_Play (hr.mono (by decide)) passE (pv 0) (pa_cons (pv 1) pa_nil)))
        (pss_cons (ps_set (i := 2) scPlay_levels_at.nd rfl (.inl rfl) pe_dnewK)
        (pss_cons (ps_for (passes_of rfl) rfl (pi_list (pe_mo0 (okm_numbers T G) G.k_Play (hr.mono (by decide)) passL (pv 0))) (pg_name (i := 3) scPlay_levels_at.nd rfl (.inl rfl))
        (pss_one (ps_if (pt_cmpR op_le (pv 3) (pv 1) (nomark _))
        (pss_cons (ps_set (i := 4) scPlay_levels_at.nd rfl (.inl rfl) (pe_dget hu (pe_fld (pv 0) rfl) (pv 3) (fun _ _ => rfl)))
        (pss_cons (ps_set (i := 2) scPlay_levels_at.nd rfl (.inl rfl) (pe_mo (okm_kept T G) G.k_Cue (hr.mono (by decide)) passL (pv 4) (pa_cons (pv 2) pa_nil)))
        (pss_one (ps_expr (pe_bm PySem.F.plainAttrs_dict PySem.F.slot_dict_update PySem.F.type_dict_update mt_update (pv 2) (pa_cons (pe_fld (pv 4) rfl) pa_nil))))))
        pss_nil)))
        (pss_one (ps_ret (pv 2)))))), ?_⟩
    refine q_dropQ (t_cue (E := E) raw b4 ht rfl rfl ?_)
    rcases hh with ⟨r0, ⟨hr0, rfl⟩, q⟩ | hm
    · refine .inl ⟨r0, ⟨hr0, rfl⟩, fun H1 e1 => ?_⟩
      refine q_asgD ed_new fun a0 H2 n0 e2 h2 => ?_
      have raw2 := raw.ex (e1.trans e2)
      obtain ⟨dx, ob⟩ := raw2.ob
      have e02 := e1.trans e2
      refine q_forNLn (el_mo (ev_var rfl) ob (pfs_no d (by decide +kernel)) ea_nil fun H3 e3 Q3 q3 => ⟨p, d, R, rfl, raw2.ex e3, q3⟩)
        (fun L i σ' H' => ∃ (a : Addr) (acc : List (Str × Int)) (o3 o4 : Option V), σ' = [some (.ref p), some (.int r0.c.n), some (.ref a), o3, o4] ∧ Ex H H' ∧ H a = none ∧ H' a = some (.dK (wkv acc)) ∧ H' L = some (.lst ((asc (pk R)).map fun c => V.int c.n)) ∧
          (acc.map (·.1)).Nodup ∧ (∀ l ∈ acc.map (·.1), l ∈ ls) ∧ ∀ l, (wlook acc l).getD 0 = lvlD (((asc (pk R)).take i).filter fun c => decide (c.n ≤ r0.c.n)).reverse l)
        (fun L H3 nL e3 h3 => ⟨a0, [], none, none, rfl, e02.trans e3, fresh_back e1 n0, e3 _ _ h2, h3, List.nodup_nil, fun l hl => absurd hl List.not_mem_nil, fun l => rfl⟩)
        (fun L i σ' H' _ ⟨a, acc, o3, o4, _, _, _, _, hL, _⟩ => .of hL) (fun L i x σ' H' hx ⟨a, acc, o3, o4, hσ, ex, na, ha, hL, nd, hk, hl⟩ => ?_) fun L σ' H' ⟨a, acc, o3, o4, hσ, ex, na, ha, hL, nd, hk, hl⟩ => ?_
      · subst hσ
        rw [List.getElem?_map] at hx
        obtain ⟨c, hc, rfl⟩ := Option.map_eq_some_iff.mp hx
        obtain ⟨r, hr1, er⟩ := asc_row hc
        subst er
        have tk := take_next hc
        refine s_when (b := decide (r.c.n ≤ r0.c.n)) (et_test (ev_op (ev_var rfl) (ev_var rfl) rv_I0)) (fun hb H3 e3 => ?_) fun hb H3 e3 => ?_
        · have raw3 := raw.ex (ex.trans e3)
          obtain ⟨dx, ob⟩ := raw3.ob
          refine q_asg (ev_dget (k := .inl r.c.n) (ev_fld (ev_var rfl) ob G.k_Play G.n_Play__cues (pfs_c d)) (ev_var rfl) (.inl raw3.dc) (val_row raw3.nd hr1)) fun H4 e4 => ?_
          have raw4 := raw3.ex e4
          obtain ⟨hca, hwa⟩ := raw4.row r hr1
          have ha4 := e4 _ _ (e3 _ _ ha)
          refine q_asgD (ed_mo (ev_var rfl) hca (flds_kept r) (ea_cons (ev_var rfl) ea_nil) fun H5 e5 Q5 q5 => ⟨r.ca, a, r.dx, r, wkv acc, rfl, e5 _ _ hca, e5 _ _ ha4, q5⟩) fun a2 H5 na2 e5 h5 => ?_
          have ex5 := ex.trans (e3.trans (e4.trans e5))
          have nw : a2 ≠ r.wa := fun z => by rw [z, hwa] at na2; cases na2
          have na20 : H a2 = none := fresh_back (ex.trans (e3.trans e4)) na2
          have nL2 : a2 ≠ L := fun z => by rw [z, e4 _ _ (e3 _ _ hL)] at na2; cases na2
          have ek : (if r.c.fr = true then [] else wkv acc) = wkv (if r.c.fr = true then [] else acc) := by split <;> rfl
          rw [ek] at h5
          have f1 := few_of nd hk b2
          have f2 : r.c.ws.length < 64 := few_of (raw.wn r hr1) (fun l hl => by
            obtain ⟨y, hy, rfl⟩ := List.mem_map.mp hl
            exact b1 r hr1 y hy) b2
          refine s_upd (ev_var rfl) (ev_fld (ev_var rfl) (e5 _ _ hca) G.k_Cue G.n_Cue_words (flds_words r)) h5 (.inl (e5 _ _ hwa)) nw (by
            rw [wkv_len, wkv_len]
            split
            · rw [List.length_nil]; omega
            · omega) fun H6 e6 => ?_
          rw [merge_wkv]
          refine ⟨a2, goL acc r.c, _, _, rfl, (ex5.trans e6).mut na20, na20, upd_same, by rw [upd_ne (Ne.symm nL2)]; exact e6 _ _ (e5 _ _ (e4 _ _ (e3 _ _ hL))), goL_keys nd, goL_mem hk (b1 r hr1), fun l => ?_⟩
          rw [tk, List.filter_append, List.filter_cons, if_pos hb, List.filter_nil, List.reverse_append]
          exact goL_look (raw.wn r hr1) hl l
        · refine ⟨a, acc, _, _, rfl, ex.trans e3, na, e3 _ _ ha, e3 _ _ hL, nd, hk, fun l => ?_⟩
          rw [tk, List.filter_append, List.filter_cons, if_neg (by rw [hb]; decide), List.filter_nil, List.append_nil]
          exact hl l
      · subst hσ
        refine s_ret (ev_var rfl) fun H3 e3 => q acc nd (fun l => ?_) hk a H3 na (ex.trans e3) (e3 _ _ ha)
        rw [hl l, List.length_map, List.take_length, ← lvl_asc raw.nd]
    · exact .inr hm
/-- a method of the play that begins by levels = self._levels_at(x) -/
theorem t_lvls {p d : Addr} {R : List PRow} {ls : List Str} {x : V} {ty : String} {σ : L2.St} {H : Hp} {i j : Nat} {Q : VK} {E : XK} (raw : Raw cPlay cCue H p d R) (bd : Bound R ls) (ht : TyB K H x ty) (g0 : σ[i]? = some (some (.ref p))) (g1 : σ[j]? = some (some x))
    (h : (∃ r, Hit R x r ∧ ∀ ws a H1, (ws.map (·.1)).Nodup → (∀ l, (wlook ws l).getD 0 = lvl (pk R) r.c.n l) → (∀ l ∈ ws.map (·.1), l ∈ ls) → H a = none → Ex H H1 → H1 a = some (.dK (wkv ws)) → Q (.ref a) H1) ∨ (Miss R x ∧ RaiseV eNoCue H E)) :
    tMeth cPlay "_levels_at" (spLevels K cPlay cCue eNoCue) [] E (tVar i) (tCons (tVar j) tNil) σ H Q := by
  obtain ⟨dx, ob⟩ := raw.ob
  refine t_mo (ev_var g0) ob (pfs_no d (by decide +kernel)) (ea_cons (ev_var g1) ea_nil) fun H1 e1 => ⟨p, d, R, ls, x, ty, rfl, raw.ex e1, bd, tyB_ex e1 ht, ?_⟩
  rcases h with ⟨r, hit, k⟩ | ⟨miss, rz⟩
  · exact .inl ⟨r, hit, fun ws n1 n2 n3 a H2 na e2 h2 => k ws a H2 n1 n2 n3 (fresh_back e1 na) (e1.trans e2) h2⟩
  · exact .inr ⟨miss, rz.mono e1⟩
theorem okm_look (T : Top K mg) (G : Prg K mg eNoCue eTaken eTooMany eNoLamp eNoLevel eNoTime eNoText cCue cPlay cReader) (TB : LampT K mg base c Pt fs fds) : MOk P w K mg base cPlay "look" 5 ["self", "number"] [] (spLookR K cPlay cCue eNoCue) := by
  refine G.m_Play_look.ok scPlaylook (fun vs H Q E h => ?_) (fun f cdv A outer s H vs Q E hr h => ?_)
  · obtain ⟨p, d, R, ls, x, ty, rfl, _⟩ := h
    rfl
  · obtain ⟨p, d, R, ls, x, ty, rfl, raw, bd, ht, hh⟩ := h
    have hu := hu_of hr
    refine ⟨_, (pss_cons (ps_set (i := 2) scPlaylook.nd rfl (.inr rfl) (pe_mo (okm_levels_at T G TB) G.k_Play (hr.mono (by decide)) passE (pv 0) (pa_cons (pv 1) pa_nil)))
        (pss_one (ps_ret (pe_dc (own := [("lamp", 3)]) (g := gName 3) (by rfl) scPlaylook.nd (pi_list (pe_callB (call_sortedD rfl) (by rfl) T.z_sorted (by decide +kernel) (pa_cons (pv 2) pa_nil))) (blkOk_by (own := [("lamp", 3)]) (N := nsPlaylook) (sc := defScope sPlaylook) (by decide +kernel)) (fun _ _ _ _ _ => (pg_name (i := 3) scPlaylook.nd rfl (.inl rfl))) (fun _ _ _ _ _ => (pts_one (pt_cmpR op_gt (pe_dget hu (pv 2) (pv 3) (fun _ _ => rfl)) pe_int (nomark _)))) (fun _ _ _ _ _ => (pv 3)) (fun _ _ _ _ _ => (pe_dget hu (pv 2) (pv 3) (fun _ _ => rfl))))))), ?_⟩
    refine q_asgQ (t_lvls (E := E) raw bd ht rfl rfl ?_)
    rcases hh with ⟨r, hit, q⟩ | hm
    · refine .inl ⟨r, hit, fun ws a H1 nd hl hk na e1 h1 => ?_⟩
      have f1 := few_of nd hk bd.2.1
      have nd2 : (sortS (ws.map (·.1))).Nodup := (sortS_perm _).nodup_iff.mpr nd
      have at_ : ∀ l ∈ sortS (ws.map (·.1)), valV (wkv ws) (.inr l) = some (.int ((wlook ws l).getD 0)) := fun l hm => by
        obtain ⟨v, hv⟩ := wlook_some ((sortS_perm _).mem_iff.mp hm)
        rw [val_wkv, hv]; rfl
      refine s_retD (ed_dcN (K := K) (fun l => decide (0 < (wlook ws l).getD 0)) (fun l => .int ((wlook ws l).getD 0)) nd2 (el_sortW (ev_var rfl) (.inl h1) f1) (by rw [(sortS_perm _).length_eq, List.length_map]; omega) (fun _ => rfl)
        (fun l H2 e2 hm => et_test (ev_op (ev_dget (k := .inr l) (ev_var rfl) (ev_var rfl) (.inl (e2 _ _ h1)) (at_ l hm)) ev_c rv_I0)) (fun l H2 e2 _ _ => ev_var rfl) (fun l H2 e2 hm _ => ev_dget (k := .inr l) (ev_var rfl) (ev_var rfl) (.inl (e2 _ _ h1)) (at_ l hm))) fun b H2 nb e2 h2 => ?_
      refine q _ (look_of nd hl) b H2 (fresh_back e1 nb) (e1.trans e2) ?_
      rw [h2]
      unfold wkv
      rw [List.map_map]; rfl
    · exact .inr hm
theorem okm_level (T : Top K mg) (G : Prg K mg eNoCue eTaken eTooMany eNoLamp eNoLevel eNoTime eNoText cCue cPlay cReader) (TB : LampT K mg base c Pt fs fds) : MOk P w K mg base cPlay "level" 5 ["self", "number", "lamp"] [] (spLevelR K Pt cPlay cCue eNoCue eNoLamp) := by
  refine G.m_Play_level.ok scPlaylevel (fun vs H Q E h => ?_) (fun f cdv A outer s H vs Q E hr h => ?_)
  · obtain ⟨p, d, R, ls, x, ty, y, tz, rfl, _⟩ := h
    rfl
  · obtain ⟨p, d, R, ls, x, ty, y, tz, rfl, raw, bd, ht, hy, ho, tab, hh⟩ := h
    have hu := hu_of hr
    refine ⟨_, (pss_cons (ps_set (i := 3) scPlaylevel.nd rfl (.inl rfl) (pe_mo (okm_levels_at T G TB) G.k_Play (hr.mono (by decide)) passE (pv 0) (pa_cons (pv 1) pa_nil)))
        (pss_cons (ps_if (pt_not (pt_val (pe_dn (ok_is_lamp T TB) (hr.mono (by decide)) (by rfl) (pa_cons (pv 2) pa_nil))))
        (pss_one (ps_raiseE rfl G.e_NoLamp (by rfl)))
        pss_nil)
        (pss_one (ps_ret (pe_dget2 hu (pv 3) (pv 2) pe_int ⟨rfl, rfl, rfl, rfl⟩))))), ?_⟩
    refine q_asgQ (t_lvls (E := E) raw bd ht rfl rfl ?_)
    rcases hh with ⟨r, l, hit, rfl, hlm, q⟩ | hm | ⟨⟨r, hit⟩, hno, rz⟩
    · refine .inl ⟨r, hit, fun ws a H1 nd hl hk na e1 h1 => ?_⟩
      refine q_when (b := false) (et_is (et_not (et_test (ev_lamp (ev_var rfl) (tyB_ex e1 hy) ho (e1 _ _ tab)))) (by rw [lamp_of hlm]; rfl)) (fun hb => by cases hb) fun _ H2 e2 => ?_
      refine s_ret (ev_get2 (k := .inr l) (ev_var rfl) (ev_var rfl) ev_c (e2 _ _ h1)) fun H3 e3 => ?_
      have e : (valV (wkv ws) (.inr l)).getD (.int 0) = .int (lvl (pk R) r.c.n l) := by
        rw [val_wkv, ← hl l]
        cases wlook ws l <;> rfl
      rw [e]
      exact q.go (e1.trans (e2.trans e3))
    · exact .inr hm
    · refine .inl ⟨r, hit, fun ws a H1 nd hl hk na e1 h1 => ?_⟩
      exact q_when (b := true) (et_is (et_not (et_test (ev_lamp (ev_var rfl) (tyB_ex e1 hy) ho (e1 _ _ tab)))) (by rw [hno]; rfl)) (fun _ H2 e2 => rz.go (e1.trans e2)) fun hb => by cases hb
theorem okm_tell (T : Top K mg) (G : Prg K mg eNoCue eTaken eTooMany eNoLamp eNoLevel eNoTime eNoText cCue cPlay cReader) (TB : LampT K mg base c Pt fs fds) : MOk P w K mg base cPlay "tell" 4 ["self", "number", "lamp", "level"] [] (spTellR K Pt cPlay cCue eNoCue eNoLamp eNoLevel) := by
  refine G.m_Play_tell.ok scPlaytell (fun vs H Q E h => ?_) (fun f cdv A outer s H vs Q E hr h => ?_)
  · obtain ⟨p, d, R, ls, x, ty, y, tz, u, tw, rfl, _⟩ := h
    rfl
  · obtain ⟨p, d, R, ls, x, ty, y, tz, u, tw, rfl, raw, bd, ht, hy, ho, hw, tab, hh⟩ := h
    have hu := hu_of hr
    refine ⟨_, (pss_cons (ps_set (i := 4) scPlaytell.nd rfl (.inl rfl) (pe_mo (okm_cue_of T G TB) G.k_Play (hr.mono (by decide)) passE (pv 0) (pa_cons (pv 1) pa_nil)))
        (pss_cons (ps_if (pt_not (pt_val (pe_dn (ok_is_lamp T TB) (hr.mono (by decide)) (by rfl) (pa_cons (pv 2) pa_nil))))
        (pss_one (ps_raiseE rfl G.e_NoLamp (by rfl)))
        pss_nil)
        (pss_cons (ps_if (pt_not (pt_val (pe_dn (ok_is_level T) (hr.mono (by decide)) (by rfl) (pa_cons (pv 3) pa_nil))))
        (pss_one (ps_raiseE rfl G.e_NoLevel (by rfl)))
        pss_nil)
        (pss_one (ps_dput hu (pe_fld (pv 4) rfl) (pv 2) (pv 3) rfl))))), ?_⟩
    refine q_asgQ (t_cue (E := E) raw bd.2.2.2 ht rfl rfl ?_)
    rcases hh with ⟨r, l, v, hit, rfl, hlm, rfl, v1, v2, q⟩ | hm | ⟨⟨r, hit⟩, hno, rz⟩ | ⟨⟨r, hit⟩, hyes, hno, rz⟩
    · refine .inl ⟨r, hit, fun H1 e1 => ?_⟩
      refine q_when (b := false) (et_is (et_not (et_test (ev_lamp (ev_var rfl) (tyB_ex e1 hy) ho (e1 _ _ tab)))) (by rw [lamp_of hlm]; rfl)) (fun hb => by cases hb) fun _ H2 e2 => ?_
      refine q_when (b := false) (et_is (et_not (et_test (ev_in (ev_var rfl) (tyB_ex (e1.trans e2) hw)))) (by rw [numIn_of v1 v2]; rfl)) (fun hb => by cases hb) fun _ H3 e3 => ?_
      have e13 := e1.trans (e2.trans e3)
      obtain ⟨hca, hwa⟩ := (raw.ex e13).row r hit.1
      have f2 : r.c.ws.length < 64 := few_of (raw.wn r hit.1) (fun l hl => by
        obtain ⟨y, hy, rfl⟩ := List.mem_map.mp hl
        exact bd.1 r hit.1 y hy) bd.2.1
      refine s_dput (k := .inr l) (ev_var rfl) (ev_fld (ev_var rfl) hca G.k_Cue G.n_Cue_words (flds_words r)) (ev_var rfl) hwa (by rw [wkv_len]; omega) fun H4 e4 => ?_
      rw [put_wkv]
      exact q H4 (e13.trans e4)
    · exact .inr hm
    · refine .inl ⟨r, hit, fun H1 e1 => ?_⟩
      exact q_when (b := true) (et_is (et_not (et_test (ev_lamp (ev_var rfl) (tyB_ex e1 hy) ho (e1 _ _ tab)))) (by rw [hno]; rfl)) (fun _ H2 e2 => rz.go (e1.trans e2)) fun hb => by cases hb
    · refine .inl ⟨r, hit, fun H1 e1 => ?_⟩
      refine q_when (b := false) (et_is (et_not (et_test (ev_lamp (ev_var rfl) (tyB_ex e1 hy) ho (e1 _ _ tab)))) (by rw [hyes]; rfl)) (fun hb => by cases hb) fun _ H2 e2 => ?_
      exact q_when (b := true) (et_is (et_not (et_test (ev_in (ev_var rfl) (tyB_ex (e1.trans e2) hw)))) (by rw [hno]; rfl)) (fun _ H3 e3 => rz.go (e1.trans (e2.trans e3))) fun hb => by cases hb
theorem okm_untell (T : Top K mg) (G : Prg K mg eNoCue eTaken eTooMany eNoLamp eNoLevel eNoTime eNoText cCue cPlay cReader) (TB : LampT K mg base c Pt fs fds) : MOk P w K mg base cPlay "untell" 4 ["self", "number", "lamp"] [] (spUntellR K Pt cPlay cCue eNoCue eNoLamp) := by
  refine G.m_Play_untell.ok scPlayuntell (fun vs H Q E h => ?_) (fun f cdv A outer s H vs Q E hr h => ?_)
  · obtain ⟨p, d, R, ls, x, ty, y, tz, rfl, _⟩ := h
    rfl
  · obtain ⟨p, d, R, ls, x, ty, y, tz, rfl, raw, bd, ht, hy, ho, tab, hh⟩ := h
    have hu := hu_of hr
    refine ⟨_, (pss_cons (ps_set (i := 3) scPlayuntell.nd rfl (.inl rfl) (pe_mo (okm_cue_of T G TB) G.k_Play (hr.mono (by decide)) passE (pv 0) (pa_cons (pv 1) pa_nil)))
        (pss_cons (ps_if (PW.pt (pw_or (pt_not (pt_val (pe_dn (ok_is_lamp T TB) (hr.mono (by decide)) (by rfl) (pa_cons (pv 2) pa_nil)))) (pw_or1 (pt_cmp (pc_dnotin hu (pv 2) (pe_fld (pv 3) rfl))))))
        (pss_one (ps_raiseE rfl G.e_NoLamp (by rfl)))
        pss_nil)
        (pss_one (ps_ddel (pe_fld (pv 3) rfl) (pv 2))))), ?_⟩
    refine q_asgQ (t_cue (E := E) raw bd.2.2.2 ht rfl rfl ?_)
    rcases hh with ⟨r, l, hit, rfl, hlm, hs, q⟩ | hm | ⟨⟨r, hit, hno⟩, rz⟩
    · refine .inl ⟨r, hit, fun H1 e1 => ?_⟩
      obtain ⟨hca, hwa⟩ := (raw.ex e1).row r hit.1
      refine q_when (b := false) (et_is (et_or (b := !(valV (wkv r.c.ws) (.inr l)).isSome) (et_not (et_test (ev_lamp (ev_var rfl) (tyB_ex e1 hy) ho (e1 _ _ tab)))) fun _ => et_B (ev_dnotin (k := .inr l) (ev_var rfl) (ev_fld (ev_var rfl) hca G.k_Cue G.n_Cue_words (flds_words r)) (.inl hwa))) (by rw [lamp_of hlm, val_wkv, Option.isSome_map, hs]; rfl)) (fun hb => by cases hb) fun _ H2 e2 => ?_
      refine s_ddel (k := .inr l) (ev_fld (ev_var rfl) (e2 _ _ hca) G.k_Cue G.n_Cue_words (flds_words r)) (ev_var rfl) (e2 _ _ hwa) (by rw [val_wkv, Option.isSome_map, hs]) fun H3 e3 => ?_
      rw [drop_wkv]
      exact q H3 (e1.trans (e2.trans e3))
    · exact .inr hm
    · refine .inl ⟨r, hit, fun H1 e1 => ?_⟩
      obtain ⟨hca, hwa⟩ := (raw.ex e1).row r hit.1
      refine q_when (b := true) (et_is (et_or (b := true) (et_not (et_test (ev_lamp (ev_var rfl) (tyB_ex e1 hy) ho (e1 _ _ tab)))) fun hb => ?_) (by rw [Bool.or_true])) (fun _ H2 e2 => rz.go (e1.trans e2)) fun hb => by cases hb
      obtain ⟨l, rfl, hlm⟩ := lamp_yes (x := y) (by cases hn : lampIs y with
        | true => rfl
        | false => rw [hn] at hb; cases hb)
      exact et_is (et_B (ev_dnotin (k := .inr l) (ev_var rfl) (ev_fld (ev_var rfl) hca G.k_Cue G.n_Cue_words (flds_words r)) (.inl hwa))) (by rw [val_wkv, hno l rfl hlm]; rfl)
theorem okm_cue (T : Top K mg) (G : Prg K mg eNoCue eTaken eTooMany eNoLamp eNoLevel eNoTime eNoText cCue cPlay cReader) (TB : LampT K mg base c Pt fs fds) : MOk P w K mg base cPlay "cue" 4 ["self", "number"] [] (spCueR K cPlay cCue eNoCue) := by
  refine G.m_Play_cue.ok scPlaycue (fun vs H Q E h => ?_) (fun f cdv A outer s H vs Q E hr h => ?_)
  · obtain ⟨p, d, R, ls, x, ty, rfl, _⟩ := h
    rfl
  · obtain ⟨p, d, R, ls, x, ty, rfl, raw, bd, ht, hh⟩ := h
    have hu := hu_of hr
    refine ⟨_, (pss_cons (ps_set (i := 2) scPlaycue.nd rfl (.inr rfl) (pe_mo (okm_cue_of T G TB) G.k_Play (hr.mono (by decide)) passE (pv 0) (pa_cons (pv 1) pa_nil)))
        (pss_cons (ps_setDc (i := 3) (own := [("lamp", 4)]) (g := gName 4) (by rfl) scPlaycue.nd rfl rfl (swD rfl rfl rfl (by decide +kernel)) (pi_list (pe_callB (call_sortedD rfl) (by rfl) T.z_sorted (by decide +kernel) (pa_cons (pe_fld (pv 2) rfl) pa_nil))) (blkOk_by (own := [("lamp", 4)]) (N := nsPlaycue) (sc := defScope sPlaycue) (by decide +kernel)) (fun _ _ _ _ _ => (pg_name (i := 4) scPlaycue.nd rfl (.inl rfl))) (fun _ _ _ _ _ => pts_nil) (fun _ _ _ _ _ => (pv 4)) (fun _ _ _ _ _ => (pe_dget hu (pe_fldK (K := K) (pv 2) rfl) (pv 4) (fun _ _ => rfl))))
        (pss_one (ps_ret (pe_tup (pa_cons (pe_fld (pv 2) rfl) (pa_cons (pe_fld (pv 2) rfl) (pa_cons (pe_fld (pv 2) rfl) (pa_cons (pv 3) pa_nil))))))))), ?_⟩
    refine q_asgQ (t_cue (E := E) raw bd.2.2.2 ht rfl rfl ?_)
    rcases hh with ⟨r, hit, q⟩ | hm
    · refine .inl ⟨r, hit, fun H1 e1 => ?_⟩
      obtain ⟨hca, hwa⟩ := (raw.ex e1).row r hit.1
      have nd := raw.wn r hit.1
      have f1 : r.c.ws.length < 64 := few_of nd (fun l hl => by
        obtain ⟨y, hy, rfl⟩ := List.mem_map.mp hl
        exact bd.1 r hit.1 y hy) bd.2.1
      have nd2 : (sortS (r.c.ws.map (·.1))).Nodup := (sortS_perm _).nodup_iff.mpr nd
      have at_ : ∀ l ∈ sortS (r.c.ws.map (·.1)), valV (wkv r.c.ws) (.inr l) = some (.int ((wlook r.c.ws l).getD 0)) := fun l hm => by
        obtain ⟨v, hv⟩ := wlook_some ((sortS_perm _).mem_iff.mp hm)
        rw [val_wkv, hv]; rfl
      refine q_asgD (ed_dcY (K := K) (fun l => .int ((wlook r.c.ws l).getD 0)) nd2 (el_sortW (ev_fld (ev_var rfl) hca G.k_Cue G.n_Cue_words (flds_words r)) (.inl hwa) f1) (by rw [(sortS_perm _).length_eq, List.length_map]; omega) (fun _ => rfl)
        (fun l H2 e2 _ => ev_var rfl) (fun l H2 e2 hm => ev_dget (k := .inr l) (ev_fld (ev_var rfl) (e2 _ _ hca) G.k_Cue G.n_Cue_words (flds_words r)) (ev_var rfl) (.inl (e2 _ _ hwa)) (at_ l hm))) fun b H2 nb e2 h2 => ?_
      have hca2 := e2 _ _ hca
      refine s_retU (eu_tup (ea_cons (ev_fld (ev_var rfl) hca2 G.k_Cue G.n_Cue_up (flds_up r)) (ea_cons (ev_fld (ev_var rfl) hca2 G.k_Cue G.n_Cue_down (flds_down r)) (ea_cons (ev_fld (ev_var rfl) hca2 G.k_Cue G.n_Cue_fresh (flds_fresh r)) (ea_cons (ev_var rfl) ea_nil)))) (show 4 ≤ 100000 by decide)) fun t H3 nt e3 h3 => ?_
      refine q t b H3 (fresh_back (e1.trans e2) nt) (fresh_back e1 nb) (fun z => by rw [z, h2] at nt; cases nt) (e1.trans (e2.trans e3)) h3 ?_
      rw [wkv_sortW]
      exact e3 _ _ h2
    · exact .inr hm
end
end LW

namespace LW
open PySem PySem.Spec PyProof.Rows L2 Evl HB HS MB HW HM HI PI MC HJ HG PS PT GX MX RH DC RP RQ RM RL RS RT
section
variable {P : Program} {w : World} {K : PySem.W.Frag} {mg : Str → Option Value} {base : Heap} {eNoCue eTaken eTooMany eNoLamp eNoLevel eNoTime eNoText cCue cPlay cReader c Pt fs : Addr} {fds : FuncData}
theorem okc_Play (T : Top K mg) (G : Prg K mg eNoCue eTaken eTooMany eNoLamp eNoLevel eNoTime eNoText cCue cPlay cReader) : COk P w K mg base cPlay 1 ["self"] (spPlayI cPlay) := by
  refine G.i_Play.ok scPlay__init__ (fun vs H Q E h => ?_) (fun f cdv A outer s H vs Q E hr h => ?_)
  · obtain ⟨x, dx, rfl, _⟩ := h
    rfl
  · obtain ⟨x, dx, rfl, hx, q⟩ := h
    have hu := hu_of hr
    refine ⟨_, (pss_one (ps_fld (pv 0) pe_dnewK rfl)), ?_⟩
    refine s_fldD ed_new (fun _ _ => ev_var rfl) hx G.k_Play G.n_Play__cues (by decide) fun d H1 nd e1 h1 => ?_
    have xd : d ≠ x := fun z => by rw [z, hx] at nd; cases nd
    exact q d _ nd (by rw [upd_ne xd]; exact h1) upd_same fun c o hc ne => by rw [upd_ne ne]; exact e1 _ _ hc
theorem okm_put' (T : Top K mg) (G : Prg K mg eNoCue eTaken eTooMany eNoLamp eNoLevel eNoTime eNoText cCue cPlay cReader) : MDK P w K mg base cPlay "put" "Play.put" sPlayput [.int 0, .int 0, .bl false] 3 ["self", "number", "up", "down", "fresh"] (spPutR K cPlay cCue eNoCue eTaken eTooMany eNoTime) := by
  refine G.m_Play_put.ok scPlayput (fun vs H Q E h => ?_) (fun f cdv A outer s H vs Q E hr h => ?_)
  · obtain ⟨p, d, R, x, ty, u, tu, v, tv, b, rfl, _⟩ := h
    rfl
  · obtain ⟨p, d, R, x, ty, u, tu, v, tv, b, rfl, raw, rl, ht, hu', hv', hh⟩ := h
    have hu := hu_of hr
    obtain ⟨dx, ob⟩ := raw.ob
    refine ⟨_, (pss_cons (ps_if (pt_not (pt_val (pe_dn (ok_is_cue T) (hr.mono (by decide)) (by rfl) (pa_cons (pv 1) pa_nil))))
        (pss_one (ps_raiseE rfl G.e_NoCue (by rfl)))
        pss_nil)
        (pss_cons (ps_if (pt_cmp (pc_din hu (pv 1) (pe_fld (pv 0) rfl)))
        (pss_one (ps_raiseE rfl G.e_Taken (by rfl)))
        pss_nil)
        (pss_cons (ps_if (PW.pt (pw_or (pt_not (pt_val (pe_dn (ok_is_fade T) (hr.mono (by decide)) (by rfl) (pa_cons (pv 2) pa_nil)))) (pw_or1 (pt_not (pt_val (pe_dn (ok_is_fade T) (hr.mono (by decide)) (by rfl) (pa_cons (pv 3) pa_nil)))))))
        (pss_one (ps_raiseE rfl G.e_NoTime (by rfl)))
        pss_nil)
        (pss_cons (ps_if (pt_cmpR op_ge (pe_callB call_lenD (by rfl) T.z_len PySem.boot_len (pa_cons (pe_fld (pv 0) rfl) pa_nil)) (pe_ci T.c_MOST_CUES (by rfl)) (nomark _))
        (pss_one (ps_raiseE rfl G.e_TooMany (by rfl)))
        pss_nil)
        (pss_one (ps_dput hu (pe_fld (pv 0) rfl) (pv 1) (pe_co (okc_Cue T G) (hr.mono (by decide)) (by rfl) G.g_Cue passL (pa_cons (pv 2) (pa_cons (pv 3) (pa_cons (pv 4) pa_nil)))) rfl)))))), ?_⟩
    have hc : ∀ {H1 : Hp} {i : Nat} {σ : L2.St}, Ex H H1 → σ[i]? = some (some (.ref p)) → Ev (tFld K (tVar i) "_cues") σ H1 (.ref d) := fun e g => ev_fld (ev_var g) (e _ _ ob) G.k_Play G.n_Play__cues (pfs_c d)
    refine q_when (b := !numIn x 1 999999) (et_not (et_test (ev_in (ev_var rfl) ht))) (fun hb H1 e1 => ?_) fun hb H1 e1 => ?_
    · have hb : numIn x 1 999999 = false := by
        cases hn : numIn x 1 999999 with
        | true => rw [hn] at hb; cases hb
        | false => rfl
      rcases hh with ⟨_, rz⟩ | ⟨h1, _⟩ | ⟨h1, _⟩ | ⟨h1, _⟩ | ⟨n, up, down, rfl, rfl, rfl, n1, n2, _⟩
      · exact rz.go e1
      · rw [hb] at h1; cases h1
      · rw [hb] at h1; cases h1
      · rw [hb] at h1; cases h1
      · rw [numIn_of n1 n2] at hb; cases hb
    · have hb : numIn x 1 999999 = true := by
        cases hn : numIn x 1 999999 with
        | true => rfl
        | false => rw [hn] at hb; cases hb
      obtain ⟨n, rfl, n1, n2⟩ := numIn_yes hb
      refine q_when (b := inD R (.int n)) (et_B (ev_din (k := .inl n) (ev_var rfl) (hc e1 rfl) (.inl (e1 _ _ raw.dc)))) (fun hb2 H2 e2 => ?_) fun hb2 H2 e2 => ?_
      · rcases hh with ⟨h1, _⟩ | ⟨_, _, rz⟩ | ⟨_, miss, _⟩ | ⟨_, miss, _⟩ | ⟨n', up, down, e0, rfl, rfl, _, _, _, _, _, _, miss, _⟩
        · rw [hb] at h1; cases h1
        · exact rz.go (e1.trans e2)
        · rw [inD_miss miss] at hb2; cases hb2
        · rw [inD_miss miss] at hb2; cases hb2
        · rw [inD_miss miss] at hb2; cases hb2
      · have e12 := e1.trans e2
        refine q_when (b := !numIn u 0 6000 || !numIn v 0 6000) (et_or (et_not (et_test (ev_in (ev_var rfl) (tyB_ex e12 hu')))) fun _ => et_not (et_test (ev_in (ev_var rfl) (tyB_ex e12 hv')))) (fun hb3 H3 e3 => ?_) fun hb3 H3 e3 => ?_
        · rcases hh with ⟨h1, _⟩ | ⟨_, ⟨r, hit⟩, _⟩ | ⟨_, miss, _, rz⟩ | ⟨_, miss, h2, h3, _⟩ | ⟨n', up, down, e0, rfl, rfl, _, _, u1, u2, d1, d2, miss, _⟩
          · rw [hb] at h1; cases h1
          · rw [inD_hit raw.nd hit] at hb2; cases hb2
          · exact rz.go (e12.trans e3)
          · rw [h2, h3] at hb3; cases hb3
          · rw [numIn_of u1 u2, numIn_of d1 d2] at hb3; cases hb3
        · have e13 := e12.trans e3
          refine q_when (b := decide ((100 : Int) ≤ (pkv R).length)) (et_test (ev_op (ev_lenK (hc e13 rfl) (e13 _ _ raw.dc)) ev_c rv_I0)) (fun hb4 H4 e4 => ?_) fun hb4 H4 e4 => ?_
          · have hb4 := of_decide_eq_true hb4
            have hl : (pkv R).length = R.length := List.length_map _
            rcases hh with ⟨h1, _⟩ | ⟨_, ⟨r, hit⟩, _⟩ | ⟨_, miss, h2, _⟩ | ⟨_, miss, h2, h3, _, rz⟩ | ⟨n', up, down, e0, rfl, rfl, _, _, u1, u2, d1, d2, miss, lt, _⟩
            · rw [hb] at h1; cases h1
            · rw [inD_hit raw.nd hit] at hb2; cases hb2
            · rcases h2 with h2 | h2
              · rw [h2] at hb3; cases hb3
              · rw [h2, Bool.not_false, Bool.or_true] at hb3; cases hb3
            · exact rz.go (e13.trans e4)
            · omega
          · have hb4 := of_decide_eq_false hb4
            have hl : (pkv R).length = R.length := List.length_map _
            have e14 := e13.trans e4
            rcases hh with ⟨h1, _⟩ | ⟨_, ⟨r, hit⟩, _⟩ | ⟨_, miss, h2, _⟩ | ⟨_, miss, h2, h3, le, _⟩ | ⟨n', up, down, e0, rfl, rfl, _, _, u1, u2, d1, d2, miss, lt, q⟩
            · rw [hb] at h1; cases h1
            · rw [inD_hit raw.nd hit] at hb2; cases hb2
            · rcases h2 with h2 | h2
              · rw [h2] at hb3; cases hb3
              · rw [h2, Bool.not_false, Bool.or_true] at hb3; cases hb3
            · omega
            · cases e0
              refine s_dputQ (t_make (ea_cons (ev_var rfl) (ea_cons (ev_var rfl) (ea_cons (ev_var rfl) ea_nil))) fun H5 x dx2 e5 nx ndx nex => ?_)
              refine ⟨x, up, down, b, dx2, rfl, upd_same, fun wa H6 r nw e1' e2' ⟨n0, e3'⟩ hw hx6 kp => ⟨rfl, ?_⟩⟩
              have k5 : ∀ c o, H5 c = some o → H6 c = some o := fun c o hc => by
                have ncx : c ≠ x := fun z => by rw [z, nx] at hc; cases hc
                have ncd : c ≠ dx2 := fun z => by rw [z, ndx] at hc; cases hc
                exact kp c o (by rw [upd_ne ncx, upd_ne ncd]; exact hc) ncx
              have e06 : Ex H H6 := fun c o hc => k5 c o (e5 _ _ (e14 _ _ hc))
              have nx0 : H x = none := fresh_back (e14.trans e5) nx
              have nw0 : H wa = none := by
                have nwx : wa ≠ x := fun z => by rw [z, upd_same] at nw; cases nw
                have nwd : wa ≠ dx2 := fun z => by rw [z, upd_ne nex, upd_same] at nw; cases nw
                rw [upd_ne nwx, upd_ne nwd] at nw
                exact fresh_back (e14.trans e5) nw
              refine (hc e06 rfl) H6 (Ex.refl H6) _ fun H7 e7 => (ev_var rfl) H7 (Ex.refl H7) _ fun H8 e8 => ⟨d, _, rfl, DPut.k (k := .inl n) (e8 _ _ (e7 _ _ (e06 _ _ raw.dc))) (sz_lt (by omega)), ?_⟩
              have e68 := e7.trans e8
              have no : ∀ y ∈ R, y.c.n ≠ n := fun y hy z => miss y hy (by rw [z])
              have ep : putK (pkv R) (.inl n) (.ref x) = pkv (R ++ [⟨⟨n, up, down, b, []⟩, x, dx2, wa⟩]) := put_pkv (r := ⟨⟨n, up, down, b, []⟩, x, dx2, wa⟩) no
              rw [ep]
              refine q H8 ⟨⟨n, up, down, b, []⟩, x, dx2, wa⟩ (e06.trans e68) nx0 nw0 rfl ?_ (e68 _ _ hw)
              have : r.flds = (⟨⟨n, up, down, b, []⟩, x, dx2, wa⟩ : PRow).flds := by
                unfold PRow.flds
                rw [e3', e2']
              rw [← this]
              exact e68 _ _ hx6
theorem okm_put (j : Nat) (T : Top K mg) (G : Prg K mg eNoCue eTaken eTooMany eNoLamp eNoLevel eNoTime eNoText cCue cPlay cReader) (hj : j < 3) : MOk P w K mg base cPlay "put" 3 ["self", "number", "up", "down", "fresh"] ([V.int 0, .int 0, .bl false].drop j) (spPutR K cPlay cCue eNoCue eTaken eTooMany eNoTime) := by
  have h0 := okm_put' (P := P) (w := w) (base := base) T G
  match j, hj with
  | 0, _ => exact h0.at_ 2 0 (by decide) rfl fun T kV doc pm an cdv ct us its hl hi => match us, hl, its, hi with | [_, _], _, [_, _, _], _ => ⟨_, rfl, rfl⟩
  | 1, _ => exact h0.at_ 3 1 (by decide) rfl fun T kV doc pm an cdv ct us its hl hi => match us, hl, its, hi with | [_, _, _], _, [_, _, _], _ => ⟨_, rfl, rfl⟩
  | 2, _ => exact h0.at_ 4 2 (by decide) rfl fun T kV doc pm an cdv ct us its hl hi => match us, hl, its, hi with | [_, _, _, _], _, [_, _, _], _ => ⟨_, rfl, rfl⟩
theorem okm_put4 (T : Top K mg) (G : Prg K mg eNoCue eTaken eTooMany eNoLamp eNoLevel eNoTime eNoText cCue cPlay cReader) : MOk P w K mg base cPlay "put" 3 ["self", "number", "up", "down", "fresh"] [] (spPutR K cPlay cCue eNoCue eTaken eTooMany eNoTime) :=
  (okm_put' T G).at_ 5 3 (by decide) rfl fun T kV doc pm an cdv ct us its hl hi => match us, hl, its, hi with | [_, _, _, _, _], _, [_, _, _], _ => ⟨_, rfl, rfl⟩
theorem okm_cut (T : Top K mg) (G : Prg K mg eNoCue eTaken eTooMany eNoLamp eNoLevel eNoTime eNoText cCue cPlay cReader) (TB : LampT K mg base c Pt fs fds) : MOk P w K mg base cPlay "cut" 4 ["self", "number"] [] (spCutR K cPlay cCue eNoCue) := by
  refine G.m_Play_cut.ok scPlaycut (fun vs H Q E h => ?_) (fun f cdv A outer s H vs Q E hr h => ?_)
  · obtain ⟨p, d, R, x, ty, rfl, _⟩ := h
    rfl
  · obtain ⟨p, d, R, x, ty, rfl, raw, bd, ht, hh⟩ := h
    have hu := hu_of hr
    refine ⟨_, (pss_cons (ps_expr (pe_mo (okm_cue_of T G TB) G.k_Play (hr.mono (by decide)) passE (pv 0) (pa_cons (pv 1) pa_nil)))
        (pss_one (ps_ddel (pe_fld (pv 0) rfl) (pv 1)))), ?_⟩
    refine q_dropQ (t_cue (E := E) raw bd ht rfl rfl ?_)
    rcases hh with ⟨r, ⟨hr0, rfl⟩, q⟩ | hm
    · refine .inl ⟨r, ⟨hr0, rfl⟩, fun H1 e1 => ?_⟩
      have raw1 := raw.ex e1
      obtain ⟨dx, ob⟩ := raw1.ob
      refine s_ddel (k := .inl r.c.n) (ev_fld (ev_var rfl) ob G.k_Play G.n_Play__cues (pfs_c d)) (ev_var rfl) raw1.dc (by rw [val_row raw1.nd hr0]; rfl) fun H2 e2 => ?_
      rw [drop_pkv]
      exact q H2 (e1.trans e2)
    · exact .inr hm
def oV : Option Int → V
  | none => .non
  | some n => .int n
def spBehind (C Cc : Addr) : Sp := fun vs H Q _ => ∃ p d R n, vs = [.ref p, .int n] ∧ Raw C Cc H p d R ∧ R.length ≤ 100 ∧ RetV (oV (behindOf (pk R) n)) H Q
theorem okm_behind (T : Top K mg) (G : Prg K mg eNoCue eTaken eTooMany eNoLamp eNoLevel eNoTime eNoText cCue cPlay cReader) : MOk P w K mg base cPlay "_behind" 1 ["self", "number"] [] (spBehind cPlay cCue) := by
  refine G.m_Play__behind.ok scPlay_behind (fun vs H Q E h => ?_) (fun f cdv A outer s H vs Q E hr h => ?_)
  · obtain ⟨p, d, R, n, rfl, _⟩ := h
    rfl
  · obtain ⟨p, d, R, n, rfl, raw, rl, q⟩ := h
    have hu := hu_of hr
    obtain ⟨dx, ob⟩ := raw.ob
    refine ⟨_, (pss_one (ps_ret (pe_callBK (cr_minD rfl) (by rfl) T.z_min (by decide +kernel) (pa_cons (pe_lock (pe_lc (own := [("other", 2)]) (g := gName 2) (by rfl) scPlay_behind.nd (pi_keys (pe_fld (pv 0) rfl)) (blkOk_by (own := [("other", 2)]) (N := nsPlay_behind) (sc := defScope sPlay_behind) (by decide +kernel)) (fun _ _ _ _ _ => (pg_name (i := 2) scPlay_behind.nd rfl (.inl rfl))) (fun _ _ _ _ _ => (pts_one (pt_cmpR op_gt (pv 2) (pv 1) (nomark _)))) (fun _ _ _ _ _ => (pv 2)))) pa_nil) (pk_cons pe_non pk_nil)))), ?_⟩
    have hl : (pkv R).length = R.length := List.length_map _
    have hp : p ≠ d := ne_of ob raw.dc fun z => by cases z
    -- the numbers behind, as they stand in the dict
    have el : EvL (tLockE (tLc (iKeys (tFld K (tVar 0) "_cues")) (gName 2) (tTest (tOp (rI0 fun i j => .bl (decide (j < i))) (tVar 2) (tVar 1))) (tVar 2) [2])) [some (.ref p), some (.int n), none] H ((((pk R).map (·.n)).filter fun k => decide (n < k)).map V.int) := by
      have e : (((pk R).map (·.n)).filter fun k => decide (n < k)).map V.int = given (pkv R).length (fun i => decide (n < ((pk R).map (·.n)).getD i 0)) (fun i => V.int (((pk R).map (·.n)).getD i 0)) := by
        rw [← given_of (0 : Int) ((pk R).map (·.n)) (fun k => decide (n < k)) V.int, List.length_map, List.length_map, hl]
      rw [e]
      refine el_lock raw.dc trivial fun H1 o e1 => ?_
      have ob1 : (upd H1 d (.frz o (.dK (pkv R)))) p = some (.ins cPlay dx (pfs d)) := by rw [upd_ne hp]; exact e1 _ _ ob
      refine el_lcKeys (kvs := pkv R) (o := o) _ _ (ev_fld (ev_var rfl) ob1 G.k_Play G.n_Play__cues (pfs_c d)) upd_same (by omega) (fun _ => rfl) (fun i k v H2 e2 hk => ?_) fun i k v H2 e2 hk _ => ?_
      all_goals
        unfold pkv at hk
        rw [List.getElem?_map] at hk
        obtain ⟨r, hr1, e3⟩ := Option.map_eq_some_iff.mp hk
        cases e3
        have eg : ((pk R).map (·.n)).getD i 0 = r.c.n := getD_of 0 (by rw [pk_n, List.getElem?_map, hr1]; rfl)
        rw [eg]
      · exact et_test (ev_op (ev_var rfl) (ev_var rfl) rv_I0)
      · exact ev_var rfl
    refine s_ret (ev_minD (z := .non) (v := oV (behindOf (pk R) n)) el ev_c (fun e0 => ?_) fun m hm hy => ?_) fun H1 e1 => q.go e1
    · rw [behind_no fun k hk lt => ?_]; rfl
      have : k ∈ ((pk R).map (·.n)).filter fun k => decide (n < k) := List.mem_filter.mpr ⟨hk, decide_eq_true lt⟩
      rw [e0] at this
      cases this
    · have h1 := List.mem_filter.mp hm
      rw [behind_of h1.1 (of_decide_eq_true h1.2) fun k hk lt => hy k (List.mem_filter.mpr ⟨hk, decide_eq_true lt⟩)]; rfl
end
end LW

namespace LW
open PySem PySem.Spec PyProof.Rows L2 Evl HB HS MB HW HM HI PI MC HJ HG PS PT GX MX RH DC RP RQ RM RL RS RT
section
variable {P : Program} {w : World} {K : PySem.W.Frag} {mg : Str → Option Value} {base : Heap} {eNoCue eTaken eTooMany eNoLamp eNoLevel eNoTime eNoText cCue cPlay cReader c Pt fs : Addr} {fds : FuncData}
def spLookB (K : PySem.W.Frag) (C Cc eCue : Addr) : Sp := fun vs H Q E => ∃ p d R ls x ty, vs = [.ref p, x] ∧ Raw C Cc H p d R ∧ Bound R ls ∧ TyB K H x ty ∧
  ((∃ r, Hit R x r ∧ (behindOf (pk R) r.c.n = none → RetV .non H Q) ∧ ∀ k, behindOf (pk R) r.c.n = some k → RetD (wkv (lookOf (pk R) k ls)) H Q) ∨ (Miss R x ∧ RaiseV eCue H E))
theorem okm_look_behind (T : Top K mg) (G : Prg K mg eNoCue eTaken eTooMany eNoLamp eNoLevel eNoTime eNoText cCue cPlay cReader) (TB : LampT K mg base c Pt fs fds) : MOk P w K mg base cPlay "_look_behind" 6 ["self", "number"] [] (spLookB K cPlay cCue eNoCue) := by
  refine G.m_Play__look_behind.ok scPlay_look_behind (fun vs H Q E h => ?_) (fun f cdv A outer s H vs Q E hr h => ?_)
  · obtain ⟨p, d, R, ls, x, ty, rfl, _⟩ := h
    rfl
  · obtain ⟨p, d, R, ls, x, ty, rfl, raw, bd, ht, hh⟩ := h
    have hu := hu_of hr
    refine ⟨_, (pss_cons (ps_expr (pe_mo (okm_cue_of T G TB) G.k_Play (hr.mono (by decide)) passE (pv 0) (pa_cons (pv 1) pa_nil)))
        (pss_cons (ps_set (i := 2) scPlay_look_behind.nd rfl (.inl rfl) (pe_mo (okm_behind T G) G.k_Play (hr.mono (by decide)) passL (pv 0) (pa_cons (pv 1) pa_nil)))
        (pss_one (ps_ret (pe_ifExp (pt_cmpR op_isN (pv 2) pe_non (nomark _)) pe_non (pe_mo (okm_look T G TB) G.k_Play (hr.mono (by decide)) passE (pv 0) (pa_cons (pv 2) pa_nil))))))), ?_⟩
    refine q_dropQ (t_cue (E := E) raw bd.2.2.2 ht rfl rfl ?_)
    rcases hh with ⟨r, ⟨hr0, rfl⟩, q1, q2⟩ | hm
    · refine .inl ⟨r, ⟨hr0, rfl⟩, fun H1 e1 => ?_⟩
      have raw1 := raw.ex e1
      obtain ⟨dx, ob⟩ := raw1.ob
      refine q_asg (ev_mo (z := oV (behindOf (pk R) r.c.n)) (ev_var rfl) ob (pfs_no d (by decide +kernel)) (ea_cons (ev_var rfl) ea_nil) fun H2 e2 Q2 q => ⟨p, d, R, r.c.n, rfl, raw1.ex e2, bd.2.2.1, fun H3 e3 => q H3 e3⟩) fun H2 e2 => ?_
      cases hb : behindOf (pk R) r.c.n with
      | none => exact s_ret (ev_if (b := true) (et_is (et_test (ev_isN (x := .non) (ev_var rfl))) (decide_eq_true rfl)) (fun _ => ev_c) fun z => by cases z) fun H3 e3 => q1 hb H3 (e1.trans (e2.trans e3))
      | some k =>
        obtain ⟨r2, hr2, e0⟩ : ∃ r2 ∈ R, r2.c.n = k := by
          have := (behind_mem hb).1
          rw [pk_n] at this
          obtain ⟨r2, h2, e⟩ := List.mem_map.mp this
          exact ⟨r2, h2, e⟩
        refine s_retD (ed_if (b := false) (kvs := wkv (lookOf (pk R) k ls)) (et_is (et_test (ev_isN (x := .int k) (ev_var rfl))) (decide_eq_false fun z => by cases z)) (fun z => by cases z) fun _ => ed_mo (ev_var rfl) (e2 _ _ ob) (pfs_no d (by decide +kernel)) (ea_cons (ev_var rfl) ea_nil) fun H3 e3 Q3 q => ⟨p, d, R, ls, .int k, _, rfl, raw1.ex (e2.trans e3), bd, .int k, .inl ⟨r2, ⟨hr2, by rw [e0]⟩, fun ws hw => ?_⟩⟩) fun b H3 nb e3 h3 => q2 k hb b H3 (fresh_back (e1.trans e2) nb) (e1.trans (e2.trans e3)) h3
        rw [e0] at hw
        rw [look_uniq hw (look_is (cov_pk bd.1))]
        exact q
    · exact .inr hm
/-- self._hold_behind(n, held) -/
def spHoldR (Pt C Cc : Addr) : Sp := fun vs H Q _ => ∃ p d R ls n h, vs = [.ref p, .int n, h] ∧ Raw C Cc H p d R ∧ Bound R ls ∧ GX.TabX H Pt ∧ (∀ l ∈ ls, LampOk l) ∧ Lv R ∧
  ((behindOf (pk R) n = none ∧ RetV .non H Q) ∨ (∃ a k ws, behindOf (pk R) n = some k ∧ h = .ref a ∧ H a = some (.dK (wkv ws)) ∧ ¬ PF p d R a ∧ (ws.map (·.1)).Nodup ∧ (∀ y ∈ ws, y.1 ∈ ls ∧ 0 ≤ y.2 ∧ y.2 ≤ 100) ∧
    DoneR C Cc p d R (fun B' => ∃ qs : List Str, B' = holdsB (pk R) (some k) (qs.map fun l => (l, (wlook ws l).getD 0)) ∧ ∀ l, lvl (pk R) k l ≠ (wlook ws l).getD 0 → l ∈ qs) H Q))
theorem okm_hold_behind (T : Top K mg) (G : Prg K mg eNoCue eTaken eTooMany eNoLamp eNoLevel eNoTime eNoText cCue cPlay cReader) (TB : LampT K mg base c Pt fs fds) : MOk P w K mg base cPlay "_hold_behind" 6 ["self", "number", "held"] [] (spHoldR Pt cPlay cCue) := by
  refine G.m_Play__hold_behind.ok scPlay_hold_behind (fun vs H Q E h => ?_) (fun f cdv A outer s H vs Q E hr h => ?_)
  · obtain ⟨p, d, R, ls, n, h, rfl, _⟩ := h
    rfl
  · obtain ⟨p, d, R, ls, n, h, rfl, raw, bd, tab, lok, lv, hh⟩ := h
    have hu := hu_of hr
    refine ⟨_, (pss_cons (ps_set (i := 3) scPlay_hold_behind.nd rfl (.inl rfl) (pe_mo (okm_behind T G) G.k_Play (hr.mono (by decide)) passL (pv 0) (pa_cons (pv 1) pa_nil)))
        (pss_cons (ps_if (pt_cmpR op_isN (pv 3) pe_non (nomark _))
        (pss_one ps_retN)
        pss_nil)
        (pss_cons (ps_set (i := 4) scPlay_hold_behind.nd rfl (.inl rfl) (pe_mo (okm_look T G TB) G.k_Play (hr.mono (by decide)) passE (pv 0) (pa_cons (pv 3) pa_nil)))
        (pss_one (ps_for (passes_of rfl) rfl (pi_keysN (pe_dd (pv 2) (pv 4))) (pg_name (i := 5) scPlay_hold_behind.nd rfl (.inl rfl))
        (pss_cons (ps_set (i := 6) scPlay_hold_behind.nd rfl (.inl rfl) (pe_dget2 hu (pv 2) (pv 5) pe_int ⟨rfl, rfl, rfl, rfl⟩))
        (pss_one (ps_if (pt_cmpR op_ne (pe_dget2 hu (pv 4) (pv 5) pe_int ⟨rfl, rfl, rfl, rfl⟩) (pv 6) (nomark _))
        (pss_one (ps_expr (pe_mo (okm_tell T G TB) G.k_Play (hr.mono (by decide)) passE (pv 0) (pa_cons (pv 3) (pa_cons (pv 5) (pa_cons (pv 6) pa_nil))))))
        pss_nil)))))))), ?_⟩
    obtain ⟨dx, ob⟩ := raw.ob
    refine q_asg (ev_mo (z := oV (behindOf (pk R) n)) (ev_var rfl) ob (pfs_no d (by decide +kernel)) (ea_cons (ev_var rfl) ea_nil) fun H2 e2 Q2 q => ⟨p, d, R, n, rfl, raw.ex e2, bd.2.2.1, fun H3 e3 => q H3 e3⟩) fun H1 e1 => ?_
    rcases hh with ⟨hb, q⟩ | ⟨a, k, ws, hb, rfl, ha, na, ndw, hws, q⟩
    · rw [hb]
      exact q_when (b := true) (et_is (et_test (ev_isN (x := .non) (ev_var rfl))) (decide_eq_true rfl)) (fun _ H2 e2 => q.go (e1.trans e2)) fun z => by cases z
    · rw [hb]
      refine q_when (b := false) (et_is (et_test (ev_isN (x := .int k) (ev_var rfl))) (decide_eq_false fun z => by cases z)) (fun z => by cases z) fun _ H2 e2 => ?_
      have raw2 := raw.ex (e1.trans e2)
      obtain ⟨r2, hr2, e0⟩ : ∃ r2 ∈ R, r2.c.n = k := by
        have := (behind_mem hb).1
        rw [pk_n] at this
        obtain ⟨r2, h2, e⟩ := List.mem_map.mp this
        exact ⟨r2, h2, e⟩
      have hnow := look_is (n := k) (cov_pk bd.1)
      have nn : ∀ l, 0 ≤ lvl (pk R) k l := fun l => (lvl_in lv k l).1
      refine q_asgD (kvs := wkv (lookOf (pk R) k ls)) (ed_mo (ev_var rfl) (e2 _ _ (e1 _ _ ob)) (pfs_no d (by decide +kernel)) (ea_cons (ev_var rfl) ea_nil) fun H3 e3 Q3 q3 => ⟨p, d, R, ls, .int k, _, rfl, raw2.ex e3, bd, .int k, .inl ⟨r2, ⟨hr2, by rw [e0]⟩, fun ws2 hw2 => ?_⟩⟩) fun b H3 nb e3 h3 => ?_
      · rw [e0] at hw2
        rw [look_uniq hw2 hnow]
        exact q3
      · obtain ⟨now, enow⟩ : ∃ now, now = lookOf (pk R) k ls := ⟨_, rfl⟩
        rw [← enow] at h3 hnow
        have ndn : (now.map (·.1)).Nodup := tlt_nd hnow.up
        have kn : ∀ l ∈ now.map (·.1), l ∈ ls := fun l hl => by
          obtain ⟨y, hy, rfl⟩ := List.mem_map.mp hl
          obtain ⟨e, pos⟩ := (hnow.mem y.1 y.2).mp hy
          exact lvl_key bd.1 (n := k) (by omega)
        have kw : ∀ l ∈ ws.map (·.1), l ∈ ls := fun l hl => by
          obtain ⟨y, hy, rfl⟩ := List.mem_map.mp hl
          exact (hws y hy).1
        have fw := few_of ndw kw bd.2.1
        have fn := few_of ndn kn bd.2.1
        have e03 := e1.trans (e2.trans e3)
        have ha3 := e03 _ _ ha
        obtain ⟨qs, eqs⟩ : ∃ qs, qs = (wmerge (wmerge [] ws) now).map (·.1) := ⟨_, rfl⟩
        have ndq : qs.Nodup := by rw [eqs]; exact wmerge_keys _ _ (wmerge_keys _ _ List.nodup_nil)
        have kq : ∀ l ∈ qs, l ∈ ls := fun l hl => by
          rw [eqs] at hl
          rcases wmerge_mem hl with hl | hl
          · rcases wmerge_mem hl with hl | hl
            · cases hl
            · exact kw l hl
          · exact kn l hl
        have ekv : mergeK (mergeK [] (wkv ws)) (wkv now) = wkv (wmerge (wmerge [] ws) now) := by
          have z1 := merge_wkv [] ws
          have z2 := merge_wkv (wmerge [] ws) now
          rw [show mergeK [] (wkv ws) = wkv (wmerge [] ws) from z1]
          exact z2
        have fl : ∀ l, 0 ≤ (wlook ws l).getD 0 ∧ (wlook ws l).getD 0 ≤ 100 := fun l => by
          cases hq : wlook ws l with
          | some v => exact (hws _ (wlook_mem hq)).2
          | none => show (0 : Int) ≤ 0 ∧ (0 : Int) ≤ 100; decide
        have nd := raw.nd
        have kin : k ∈ (pk R).map (·.n) := (behind_mem hb).1
        have nPFb : ∀ {R' : List PRow}, Raw cPlay cCue H3 p d R' → True := fun _ => trivial
        -- going through the lamps
        refine s_forKeysN (kvs := wkv (wmerge (wmerge [] ws) now)) (by rw [← ekv]; exact ed_dd (ev_var rfl) (ev_var rfl) (.inl ha3) (.inl h3) (by rw [wkv_len, wkv_len]; omega))
          (fun D o i σ' H' => ∃ (R' : List PRow) (o5 o6 : Option V), σ' = [some (.ref p), some (.int n), some (.ref a), some (.int k), some (.ref b), o5, o6] ∧ Raw cPlay cCue H' p d R' ∧ Bound R' ls ∧ pk R' = holdsB (pk R) (some k) ((qs.take i).map fun l => (l, (wlook ws l).getD 0)) ∧ Mv (PF p d R) H (PF p d R') H' ∧
            H' a = some (.dK (wkv ws)) ∧ H' b = some (.dK (wkv now)) ∧ ¬ PF p d R' a ∧ ¬ PF p d R' b ∧ ¬ PF p d R' D ∧ H' D = some (.frz o (.dK (wkv (wmerge (wmerge [] ws) now)))) ∧ GX.TabX H' Pt)
          (fun D o H4 nD e4 hD => ?_) (fun D o i σ' H' ⟨_, _, _, _, _, _, _, _, _, _, _, _, _, hD, _⟩ => hD) (fun D o i key x σ' H' hx ⟨R', o5, o6, hσ, raw', bd', epk, mv, ha', hb', na', nb', nD', hD, tab'⟩ => ?_) fun D o σ' H' ⟨R', o5, o6, hσ, raw', bd', epk, mv, _⟩ => ?_
        · have nPb : ¬ PF p d R b := fun z => by
            obtain ⟨u, hu2⟩ := (raw.ex (e1.trans e2)).known z
            rw [nb] at hu2; cases hu2
          have nPD : ¬ PF p d R D := fun z => by
            obtain ⟨u, hu2⟩ := (raw.ex e03).known z
            rw [nD] at hu2; cases hu2
          exact ⟨R, none, none, rfl, raw.ex (e03.trans e4), bd, rfl, Mv.of_ex (e03.trans e4), e4 _ _ ha3, e4 _ _ h3, na, nPb, nPD, hD, (e03.trans e4) _ _ tab⟩
        · subst hσ
          unfold wkv at hx
          rw [List.getElem?_map] at hx
          obtain ⟨y, hy, e5⟩ := Option.map_eq_some_iff.mp hx
          cases e5
          have hq : qs[i]? = some y.1 := by rw [eqs, List.getElem?_map, hy]; rfl
          have hm : y.1 ∈ qs := List.mem_of_getElem? hq
          have hin := kq _ hm
          have tk := take_next hq
          have off : y.1 ∉ ((qs.take i).map fun l => (l, (wlook ws l).getD 0)).map (·.1) := fun z => by
            rw [List.map_map] at z
            obtain ⟨l, hl, e6⟩ := List.mem_map.mp z
            have e6 : l = y.1 := e6
            have nd2 : (qs.take (i + 1)).Nodup := ndq.sublist (List.take_sublist _ _)
            rw [tk] at nd2
            exact (List.nodup_append.mp nd2).2.2 l hl y.1 List.mem_cons_self e6
          have same : lvl (pk R') k y.1 = lvl (pk R) k y.1 := by rw [epk, lvl_holds_off _ nd off]
          have et : (qs.take (i + 1)).map (fun l => (l, (wlook ws l).getD 0)) = ((qs.take i).map fun l => (l, (wlook ws l).getD 0)) ++ [(y.1, (wlook ws y.1).getD 0)] := by rw [tk, List.map_append]; rfl
          have g1 : (valV (wkv ws) (.inr y.1)).getD (.int 0) = .int ((wlook ws y.1).getD 0) := by
            rw [val_wkv]
            cases wlook ws y.1 <;> rfl
          have g2 : (valV (wkv now) (.inr y.1)).getD (.int 0) = .int (lvl (pk R) k y.1) := by
            rw [val_wkv, ← look_getD hnow nn]
            cases wlook now y.1 <;> rfl
          refine q_asg (v := .int ((wlook ws y.1).getD 0)) (ev_is (ev_get2 (k := .inr y.1) (ev_var rfl) (ev_var rfl) ev_c ha') g1) fun H5 e5 => ?_
          have raw5 := raw'.ex e5
          obtain ⟨dx5, ob5⟩ := raw5.ob
          refine s_when (b := !decide ((.int (lvl (pk R) k y.1) : V) = .int ((wlook ws y.1).getD 0))) (et_test (ev_op (ev_is (ev_get2 (k := .inr y.1) (ev_var rfl) (ev_var rfl) ev_c (e5 _ _ hb')) g2) (ev_var rfl) (rv_ne rfl))) (fun hne H6 e6 => ?_) fun heq H6 e6 => ?_
          · have hne : lvl (pk R) k y.1 ≠ (wlook ws y.1).getD 0 := fun z => by rw [z, decide_eq_true rfl] at hne; cases hne
            have raw6 := raw5.ex e6
            obtain ⟨r, hr1, er⟩ : ∃ r ∈ R', r.c.n = k := by
              have : k ∈ (pk R').map (·.n) := by rw [epk, holdsB_nums]; exact kin
              rw [pk_n] at this
              obtain ⟨r, h, e⟩ := List.mem_map.mp this
              exact ⟨r, h, e⟩
            have tab6 := e6 _ _ (e5 _ _ tab')
            refine t_mo (E := E) (ev_var rfl) (e6 _ _ ob5) (pfs_no d (by decide +kernel)) (ea_cons (ev_var rfl) (ea_cons (ev_var rfl) (ea_cons (ev_var rfl) ea_nil))) fun H7 e7 => ⟨p, d, R', ls, .int k, _, .str y.1, _, .int ((wlook ws y.1).getD 0), _, rfl, raw6.ex e7, bd', .int k, .str y.1, fun t et => by
              cases et
              have := (lok _ hin).len
              exact sz_of (by omega), .int _, e7 _ _ tab6, .inl ⟨r, y.1, (wlook ws y.1).getD 0, ⟨hr1, by rw [er]⟩, rfl, lok _ hin, rfl, (fl _).1, (fl _).2, fun H8 e8 => ?_⟩⟩
            have e58 := (e5.trans e6).trans (e7.trans e8)
            have raw8 := raw'.ex e58
            have mv8 := mv.trans (mv_mod (p := p) (d := d) hr1 e58 (fun ws0 => wput ws0 y.1 ((wlook ws y.1).getD 0)) (.dK (wkv (wput r.c.ws y.1 ((wlook ws y.1).getD 0)))))
            have mvs := mv_mod (p := p) (d := d) hr1 e58 (fun ws0 => wput ws0 y.1 ((wlook ws y.1).getD 0)) (.dK (wkv (wput r.c.ws y.1 ((wlook ws y.1).getD 0))))
            obtain ⟨ka, ka2⟩ := mvs.off ha' na'
            obtain ⟨kb, kb2⟩ := mvs.off hb' nb'
            obtain ⟨kD, kD2⟩ := mvs.off hD nD'
            obtain ⟨kt, kt2⟩ := mvs.off tab' (raw_tab raw' tab')
            refine ⟨_, _, _, rfl, raw8.modw hr1 (fun ws0 => wput ws0 y.1 ((wlook ws y.1).getD 0)) (wput_keys _ _ _ (raw'.wn r hr1)), bound_mod bd' hin, ?_, mv8, ka, kb, ka2, kb2, kD2, kD, kt⟩
            rw [pk_mod, et, holds_snoc, ← epk, er]
            show modB (pk R') k _ = if lvl (pk R') k y.1 = _ then _ else setW (pk R') k y.1 _
            rw [same, if_neg hne]; rfl
          · have heq : lvl (pk R) k y.1 = (wlook ws y.1).getD 0 := by
              by_cases z : lvl (pk R) k y.1 = (wlook ws y.1).getD 0
              · exact z
              · rw [decide_eq_false fun w => z (V.int.inj w)] at heq; cases heq
            have e56 := e5.trans e6
            refine ⟨R', _, _, rfl, raw'.ex e56, bd', ?_, mv.trans (Mv.of_ex e56), e56 _ _ ha', e56 _ _ hb', na', nb', nD', e56 _ _ hD, e56 _ _ tab'⟩
            rw [et, holds_snoc, ← epk]
            show pk R' = if lvl (pk R') k y.1 = _ then pk R' else _
            rw [same, if_pos heq]
        · subst hσ
          refine q H' R' raw' ⟨qs, ?_, fun l hne => ?_⟩ mv
          · rw [epk, wkv_len, List.take_of_length_le (by rw [eqs, List.length_map]; exact Nat.le_refl _)]
          · rw [eqs]
            by_cases z : lvl (pk R) k l = 0
            · cases hq : wlook ws l with
              | none => rw [hq, z] at hne; exact absurd rfl hne
              | some v =>
                have : wlook (wmerge (wmerge [] ws) now) l = (wlook now l).or (wlook (wmerge [] ws) l) := wmerge_look l now _ ndn
                rw [wmerge_look l ws [] ndw, hq] at this
                cases hn : wlook now l with
                | none => rw [hn] at this; exact wlook_key (v := v) this
                | some u => rw [hn] at this; exact wlook_key (v := u) this
            · have pos : 0 < lvl (pk R) k l := by have := nn l; omega
              have hm := wlook_of ndn ((hnow.mem l _).mpr ⟨rfl, pos⟩)
              have : wlook (wmerge (wmerge [] ws) now) l = (wlook now l).or (wlook (wmerge [] ws) l) := wmerge_look l now _ ndn
              have hm : wlook now l = some (lvl (pk R) k l) := hm
              rw [hm] at this
              exact wlook_key this
/-- held as the look behind tells -/
theorem hold_of {R R1 : List PRow} {ls : List Str} {n k : Int} (bd : Bound R ls) (lv : Lv R) : (((lookOf (pk R) k ls).map (·.1)).Nodup ∧ (∀ y ∈ lookOf (pk R) k ls, y.1 ∈ ls ∧ 0 ≤ y.2 ∧ y.2 ≤ 100)) ∧ ∀ l, (wlook (lookOf (pk R) k ls) l).getD 0 = lvl (pk R) k l := by
  have hk := look_is (n := k) (cov_pk bd.1)
  refine ⟨⟨tlt_nd hk.up, fun y hy => ?_⟩, look_getD hk fun l => (lvl_in lv k l).1⟩
  obtain ⟨e, pos⟩ := (hk.mem y.1 y.2).mp hy
  have := lvl_in lv k y.1
  exact ⟨lvl_key bd.1 (n := k) (by omega), by omega, by omega⟩
theorem okm_only (T : Top K mg) (G : Prg K mg eNoCue eTaken eTooMany eNoLamp eNoLevel eNoTime eNoText cCue cPlay cReader) (TB : LampT K mg base c Pt fs fds) : MOk P w K mg base cPlay "only" 7 ["self", "number", "lamp", "level"] [] (spOnlyR K Pt cPlay cCue eNoCue eNoLamp eNoLevel) := by
  refine G.m_Play_only.ok scPlayonly (fun vs H Q E h => ?_) (fun f cdv A outer s H vs Q E hr h => ?_)
  · obtain ⟨p, d, R, ls, x, ty, y, tz, u, tw, rfl, _⟩ := h
    rfl
  · obtain ⟨p, d, R, ls, x, ty, y, tz, u, tw, rfl, raw, bd, ht, hy, ho, hw, tab, lok, lv, hh⟩ := h
    have hu := hu_of hr
    refine ⟨_, (pss_cons (ps_set (i := 4) scPlayonly.nd rfl (.inl rfl) (pe_mo (okm_look_behind T G TB) G.k_Play (hr.mono (by decide)) passE (pv 0) (pa_cons (pv 1) pa_nil)))
        (pss_cons (ps_expr (pe_mo (okm_tell T G TB) G.k_Play (hr.mono (by decide)) passE (pv 0) (pa_cons (pv 1) (pa_cons (pv 2) (pa_cons (pv 3) pa_nil)))))
        (pss_one (ps_expr (pe_mo (okm_hold_behind T G TB) G.k_Play (hr.mono (by decide)) passE (pv 0) (pa_cons (pv 1) (pa_cons (pv 4) pa_nil))))))), ?_⟩
    obtain ⟨dx, ob⟩ := raw.ob
    -- what a refusal by tell comes to
    have bad : ∀ (hd : V) (H1 : Hp), Ex H H1 → ((∃ r, Hit R x r) ∧ lampIs y = false ∧ RaiseV eNoLamp H E) ∨ ((∃ r, Hit R x r) ∧ lampIs y = true ∧ numIn u 0 100 = false ∧ RaiseV eNoLevel H E) → ∀ Q1 : VK, tMeth cPlay "tell" (spTellR K Pt cPlay cCue eNoCue eNoLamp eNoLevel) [] E (tVar 0) (tCons (tVar 1) (tCons (tVar 2) (tCons (tVar 3) tNil))) [some (.ref p), some x, some y, some u, some hd] H1 Q1 := fun hd H1 e1 h Q1 => by
      refine t_mo (E := E) (ev_var rfl) (e1 _ _ ob) (pfs_no d (by decide +kernel)) (ea_cons (ev_var rfl) (ea_cons (ev_var rfl) (ea_cons (ev_var rfl) ea_nil))) fun H2 e2 => ⟨p, d, R, ls, x, ty, y, tz, u, tw, rfl, raw.ex (e1.trans e2), bd, tyB_ex (e1.trans e2) ht, tyB_ex (e1.trans e2) hy, ho, tyB_ex (e1.trans e2) hw, (e1.trans e2) _ _ tab, ?_⟩
      rcases h with ⟨a, b, rz⟩ | ⟨a, b, b2, rz⟩
      · exact .inr (.inr (.inl ⟨a, b, rz.mono (e1.trans e2)⟩))
      · exact .inr (.inr (.inr ⟨a, b, b2, rz.mono (e1.trans e2)⟩))
    -- held = self._look_behind(number)
    have first : ∀ Q1 : VK, ((∃ r, Hit R x r ∧ (behindOf (pk R) r.c.n = none → RetV .non H Q1) ∧ ∀ k, behindOf (pk R) r.c.n = some k → RetD (wkv (lookOf (pk R) k ls)) H Q1) ∨ (Miss R x ∧ RaiseV eNoCue H E)) → ∀ σ : L2.St, σ[0]? = some (some (.ref p)) → σ[1]? = some (some x) →
        tMeth cPlay "_look_behind" (spLookB K cPlay cCue eNoCue) [] E (tVar 0) (tCons (tVar 1) tNil) σ H Q1 := fun Q1 h σ g0 g1 => by
      refine t_mo (E := E) (ev_var g0) ob (pfs_no d (by decide +kernel)) (ea_cons (ev_var g1) ea_nil) fun H1 e1 => ⟨p, d, R, ls, x, ty, rfl, raw.ex e1, bd, tyB_ex e1 ht, ?_⟩
      rcases h with ⟨r, hit, h1, h2⟩ | ⟨m, rz⟩
      · exact .inl ⟨r, hit, fun hb H2 e2 => h1 hb H2 (e1.trans e2), fun k hb b H2 nb e2 h3 => h2 k hb b H2 (fresh_back e1 nb) (e1.trans e2) h3⟩
      · exact .inr ⟨m, rz.mono e1⟩
    rcases hh with ⟨r, l, v, hit, rfl, hl, rfl, v1, v2, q⟩ | hm | hbad | hbad
    · obtain ⟨hr0, rfl⟩ := hit
      refine q_asgQ (first _ (.inl ⟨r, ⟨hr0, rfl⟩, fun hb H1 e1 => ?_, fun k hb b H1 nb e1 h1 => ?_⟩) _ rfl rfl)
      -- nothing behind, or the look behind
      all_goals
        refine q_dropQ (t_mo (E := E) (ev_var rfl) (e1 _ _ ob) (pfs_no d (by decide +kernel)) (ea_cons (ev_var rfl) (ea_cons (ev_var rfl) (ea_cons (ev_var rfl) ea_nil))) fun H2 e2 => ⟨p, d, R, ls, .int r.c.n, _, .str l, _, .int v, _, rfl, raw.ex (e1.trans e2), bd, .int _, .str l, ho, .int v, (e1.trans e2) _ _ tab, .inl ⟨r, l, v, ⟨hr0, rfl⟩, rfl, lok l hl, rfl, v1, v2, fun H3 e3 => ?_⟩⟩)
        have e13 := e1.trans (e2.trans e3)
        have raw3 := (raw.ex e13).modw hr0 (fun ws => wput ws l v) (wput_keys _ _ _ (raw.wn r hr0))
        have mv3 := mv_mod (p := p) (d := d) hr0 e13 (fun ws => wput ws l v) (.dK (wkv (wput r.c.ws l v)))
        obtain ⟨kt, kt2⟩ := mv3.off tab (raw_tab raw tab)
        obtain ⟨dx3, ob3⟩ := raw3.ob
        have lv3 : Lv (modP R r.c.n fun ws => wput ws l v) := fun r1 h1 y hy => by
          obtain ⟨r0, h0, rfl⟩ := List.mem_map.mp h1
          by_cases e : r0.c.n = r.c.n
          · rw [if_pos e] at hy
            rcases PS.wput_mem hy with hy | hy
            · exact lv r0 h0 y hy
            · rw [hy]; exact ⟨v1, v2⟩
          · rw [if_neg e] at hy
            exact lv r0 h0 y hy
        have eB : pk (modP R r.c.n fun ws => wput ws l v) = setW (pk R) r.c.n l v := pk_mod _ _ _
        have ebh : behindOf (pk (modP R r.c.n fun ws => wput ws l v)) r.c.n = behindOf (pk R) r.c.n := behind_cong fun k _ => by rw [eB, setW_nums]
      · have hf : ∀ H4, Ex _ H4 → spHoldR Pt cPlay cCue _ H4 _ E := fun H4 e4 => ⟨p, d, _, ls, r.c.n, .non, rfl, raw3.ex e4, bound_mod bd hl, e4 _ _ kt, lok, lv3, .inl ⟨ebh.trans hb, fun H5 e5 => q H5 _ (raw3.ex (e4.trans e5)) (by
          rw [eB]
          unfold onlyB
          rw [hb]
          exact .refl _) (mv3.trans (Mv.of_ex (e4.trans e5)))⟩⟩
        exact t_mo (E := E) (ev_var rfl) ob3 (pfs_no d (by decide +kernel)) (ea_cons (ev_var rfl) (ea_cons (ev_var rfl) ea_nil)) hf
      · obtain ⟨⟨k1, k2⟩, k3⟩ := hold_of (R1 := R) (n := k) (k := k) bd lv
        have nPb : ¬ PF p d R b := fun z => by
          obtain ⟨o, hz⟩ := raw.known z
          rw [nb] at hz; cases hz
        obtain ⟨kb, kb2⟩ := (mv_mod (p := p) (d := d) hr0 (e2.trans e3) (fun ws => wput ws l v) (.dK (wkv (wput r.c.ws l v)))).off h1 nPb
        have hf : ∀ H4, Ex _ H4 → spHoldR Pt cPlay cCue _ H4 _ E := fun H4 e4 => ⟨p, d, _, ls, r.c.n, .ref b, rfl, raw3.ex e4, bound_mod bd hl, e4 _ _ kt, lok, lv3, .inr ⟨b, k, lookOf (pk R) k ls, ebh.trans hb, rfl, e4 _ _ kb, kb2, k1, k2, fun H5 R5 raw5 ⟨qs, eqs, hqs⟩ mv5 => q H5 R5 raw5 (by
          rw [eqs, eB]
          have z := only_same (B := pk R) (l := l) (v := v) (qs := qs) raw.nd hb fun j hj => hqs j (by rw [k3, eB]; exact fun w => hj w.symm)
          have e6 : (qs.map fun l_1 => (l_1, (wlook (lookOf (pk R) k ls) l_1).getD 0)) = qs.map fun j => (j, lvl (pk R) k j) := List.map_congr_left fun j _ => by rw [k3]
          rw [e6]
          exact z) ((mv3.trans (Mv.of_ex e4)).trans mv5)⟩⟩
        exact t_mo (E := E) (ev_var rfl) ob3 (pfs_no d (by decide +kernel)) (ea_cons (ev_var rfl) (ea_cons (ev_var rfl) ea_nil)) hf
    · exact q_asgQ (first _ (.inr hm) _ rfl rfl)
    · obtain ⟨⟨r, hit⟩, _⟩ := id hbad
      exact q_asgQ (first _ (.inl ⟨r, hit, fun hb H1 e1 => q_dropQ (bad _ H1 e1 (.inl hbad) _), fun k hb b H1 nb e1 h1 => q_dropQ (bad _ H1 e1 (.inl hbad) _)⟩) _ rfl rfl)
    · obtain ⟨⟨r, hit⟩, _⟩ := id hbad
      exact q_asgQ (first _ (.inl ⟨r, hit, fun hb H1 e1 => q_dropQ (bad _ H1 e1 (.inr hbad) _), fun k hb b H1 nb e1 h1 => q_dropQ (bad _ H1 e1 (.inr hbad) _)⟩) _ rfl rfl)
theorem okm_lift (T : Top K mg) (G : Prg K mg eNoCue eTaken eTooMany eNoLamp eNoLevel eNoTime eNoText cCue cPlay cReader) (TB : LampT K mg base c Pt fs fds) : MOk P w K mg base cPlay "lift" 7 ["self", "number"] [] (spLiftR K Pt cPlay cCue eNoCue) := by
  refine G.m_Play_lift.ok scPlaylift (fun vs H Q E h => ?_) (fun f cdv A outer s H vs Q E hr h => ?_)
  · obtain ⟨p, d, R, ls, x, ty, rfl, _⟩ := h
    rfl
  · obtain ⟨p, d, R, ls, x, ty, rfl, raw, bd, ht, tab, lok, lv, hh⟩ := h
    have hu := hu_of hr
    refine ⟨_, (pss_cons (ps_set (i := 2) scPlaylift.nd rfl (.inl rfl) (pe_mo (okm_look_behind T G TB) G.k_Play (hr.mono (by decide)) passE (pv 0) (pa_cons (pv 1) pa_nil)))
        (pss_cons (ps_expr (pe_mo (okm_cut T G TB) G.k_Play (hr.mono (by decide)) passE (pv 0) (pa_cons (pv 1) pa_nil)))
        (pss_one (ps_expr (pe_mo (okm_hold_behind T G TB) G.k_Play (hr.mono (by decide)) passE (pv 0) (pa_cons (pv 1) (pa_cons (pv 2) pa_nil))))))), ?_⟩
    obtain ⟨dx, ob⟩ := raw.ob
    refine q_asgQ (t_mo (E := E) (ev_var rfl) ob (pfs_no d (by decide +kernel)) (ea_cons (ev_var rfl) ea_nil) fun H1 e1 => ⟨p, d, R, ls, x, ty, rfl, raw.ex e1, bd, tyB_ex e1 ht, ?_⟩)
    rcases hh with ⟨r, ⟨hr0, rfl⟩, q⟩ | ⟨m, rz⟩
    · refine .inl ⟨r, ⟨hr0, rfl⟩, fun hb H2 e2 => ?_, fun k hb b H2 nb e2 h2 => ?_⟩
      all_goals
        refine q_dropQ (t_mo (E := E) (ev_var rfl) ((e1.trans e2) _ _ ob) (pfs_no d (by decide +kernel)) (ea_cons (ev_var rfl) ea_nil) fun H3 e3 => ⟨p, d, R, .int r.c.n, _, rfl, raw.ex ((e1.trans e2).trans e3), bd.2.2.2, .int _, .inl ⟨r, ⟨hr0, rfl⟩, fun H4 e4 => ?_⟩⟩)
        have e14 := (e1.trans e2).trans (e3.trans e4)
        have raw4 := (raw.ex e14).less (fun x => decide (x.c.n ≠ r.c.n))
        have mv4 := mv_less (p := p) (d := d) (R := R) e14 (fun x => decide (x.c.n ≠ r.c.n)) (.dK (pkv (R.filter fun x => decide (x.c.n ≠ r.c.n))))
        obtain ⟨kt, kt2⟩ := mv4.off tab (raw_tab raw tab)
        obtain ⟨dx4, ob4⟩ := raw4.ob
        have bd4 := bound_less (fun x => decide (x.c.n ≠ r.c.n)) bd
        have lv4 : Lv (R.filter fun x => decide (x.c.n ≠ r.c.n)) := fun r1 h1 => lv r1 (List.mem_filter.mp h1).1
        have eB : pk (R.filter fun x => decide (x.c.n ≠ r.c.n)) = cutB (pk R) r.c.n := pk_less _ _
        have nin : r.c.n ∈ (pk R).map (·.n) := List.mem_map.mpr ⟨r.c, List.mem_map.mpr ⟨r, hr0, rfl⟩, rfl⟩
        have ebh : behindOf (pk (R.filter fun x => decide (x.c.n ≠ r.c.n))) r.c.n = behindOf (pk R) r.c.n := behind_cong fun k hk => by
          rw [eB]
          exact ⟨fun z => by
            obtain ⟨c, hc, e⟩ := List.mem_map.mp z
            exact List.mem_map.mpr ⟨c, (List.mem_filter.mp hc).1, e⟩, fun z => cutB_nums z (by omega)⟩
      · have hf : ∀ H5, Ex _ H5 → spHoldR Pt cPlay cCue _ H5 _ E := fun H5 e5 => ⟨p, d, _, ls, r.c.n, .non, rfl, raw4.ex e5, bd4, e5 _ _ kt, lok, lv4, .inl ⟨ebh.trans hb, fun H6 e6 => q H6 _ (raw4.ex (e5.trans e6)) (by
          rw [eB]
          unfold liftB
          rw [hb]
          have : ∀ ps : List (Str × Int), holdsB (cutB (pk R) r.c.n) none ps = cutB (pk R) r.c.n := fun ps => by
            induction ps with
            | nil => rfl
            | cons y r ih => exact ih
          rw [this]
          exact .refl _) (mv4.trans (Mv.of_ex (e5.trans e6)))⟩⟩
        exact t_mo (E := E) (ev_var rfl) ob4 (pfs_no d (by decide +kernel)) (ea_cons (ev_var rfl) (ea_cons (ev_var rfl) ea_nil)) hf
      · obtain ⟨⟨k1, k2⟩, k3⟩ := hold_of (R1 := R) (n := k) (k := k) bd lv
        have nPb : ¬ PF p d R b := fun z => by
          obtain ⟨o, hz⟩ := (raw.ex e1).known z
          rw [nb] at hz; cases hz
        obtain ⟨kb, kb2⟩ := (mv_less (p := p) (d := d) (R := R) (e3.trans e4) (fun x => decide (x.c.n ≠ r.c.n)) (.dK (pkv (R.filter fun x => decide (x.c.n ≠ r.c.n))))).off h2 nPb
        have hf : ∀ H5, Ex _ H5 → spHoldR Pt cPlay cCue _ H5 _ E := fun H5 e5 => ⟨p, d, _, ls, r.c.n, .ref b, rfl, raw4.ex e5, bd4, e5 _ _ kt, lok, lv4, .inr ⟨b, k, lookOf (pk R) k ls, ebh.trans hb, rfl, e5 _ _ kb, kb2, k1, k2, fun H6 R6 raw6 ⟨qs, eqs, hqs⟩ mv6 => q H6 R6 raw6 (by
          rw [eqs, eB]
          have z := lift_same (B := pk R) (ls := ls) (qs := qs) raw.nd nin hb (cov_pk bd.1) fun j hj => hqs j (by rw [k3, eB]; exact fun w => hj w.symm)
          have e7 : (qs.map fun l_1 => (l_1, (wlook (lookOf (pk R) k ls) l_1).getD 0)) = qs.map fun j => (j, lvl (pk R) k j) := List.map_congr_left fun j _ => by rw [k3]
          rw [e7]
          exact z) ((mv4.trans (Mv.of_ex e5)).trans mv6)⟩⟩
        exact t_mo (E := E) (ev_var rfl) ob4 (pfs_no d (by decide +kernel)) (ea_cons (ev_var rfl) (ea_cons (ev_var rfl) ea_nil)) hf
    · exact .inr ⟨m, rz.mono e1⟩
end
end LW

namespace LW
open PySem PySem.Spec PyProof.Rows L2 Evl HB HS MB HW HM HI PI MC HJ HG PS PT GX MX RH DC RP RQ RM RL RS RT
section
variable {P : Program} {w : World} {K : PySem.W.Frag} {mg : Str → Option Value} {base : Heap} {eNoCue eTaken eTooMany eNoLamp eNoLevel eNoTime eNoText cCue cPlay cReader c Pt fs : Addr} {fds : FuncData}
theorem pl_ok (T : Top K mg) (G : Prg K mg eNoCue eTaken eTooMany eNoLamp eNoLevel eNoTime eNoText cCue cPlay cReader) (TB : LampT K mg base c Pt fs fds) (tb : Addr → Prop) (htb : tb Pt) : Pl P w K mg base cPlay (playAt cPlay cCue tb True True) :=
  pl_of G.k_Play G.g_Play htb (okc_Play T G) (okm_numbers T G) (fun _ => okm_look T G TB) (okm_level T G TB) (okm_cue T G TB) (okm_put4 T G) (fun j hj => okm_put j T G hj) (okm_tell T G TB) (fun _ => okm_untell T G TB) (fun _ => okm_only T G TB) (fun _ => okm_cut T G TB) (fun _ => okm_lift T G TB)
end
end LW

namespace LW
open PySem PySem.Spec PyProof.Rows L2 Evl HB HS MB HW HM HI PI MC HJ HG PS PT GX MX RH DC RP RQ RM RL RS RT RX RY RZ RA SP SQ TX RD
/-- _number_of, its generator expression's code and table -/
structure NumT (K : PySem.W.Frag) (mg : Str → Option Value) (base : Heap) (c Pt fs : Addr) (fds : FuncData) : Prop where
  d : DfC K mg "_number_of" "_number_of" s_number_of ["word"] c
  tb : GxR.TabB base mg c Pt
  sm : Fun K "_is_figure" "_is_figure" s_is_figure fs fds
  ms : mg "_is_figure" = some (.ref fs)
section
variable {P : Program} {w : World} {K : PySem.W.Frag} {mg : Str → Option Value} {base : Heap} {c Pt fs : Addr} {fds : FuncData}
theorem d_fig {f : Addr} {fd : FuncData} (F : Fun K "_is_figure" "_is_figure" s_is_figure f fd) : SmallD P w K f isFig := by
  intro A s c t hA hD hK hlim
  obtain ⟨oc, od, kV, doc, pm, an, cdv, ct, osl, rfl, lk, hcd⟩ := F.ex
  refine Att.call_fn (binds := [("sign", .str ⟨#[c]⟩ t)]) hK hlim lk hcd hD (.of_eq rfl) rfl (fun s1 x => ?_) rfl rfl rfl
  obtain ⟨h1, tk, e1⟩ := x.toInCall.same
  have hn := x.toInCall.ns
  have keep := x.toInCall.keep
  subst e1
  have look : (bindL (envOfC "_is_figure" (defScope s_is_figure) s.heap.objs.size f cdv).kindOf [("sign", Value.str ⟨#[c]⟩ t)] fun _ => none) "sign" = some (.str ⟨#[c]⟩ t) := rfl
  have fin : ∀ k, Keeps s { s with heap := h1, toks := k } := fun k => ⟨h1, k, rfl, keep⟩
  have name : ∀ {Q : Value → Shared → Prop} {E' : Value → Shared → Prop} {k : Nat} {pos : Pos}, Q (.str ⟨#[c]⟩ t) { s with heap := h1, toks := k } →
      wpAny (model P w) (A.deeper (envOfC "_is_figure" (defScope s_is_figure) s.heap.objs.size f cdv)) (eval (.Name "sign" pos) (envOfC "_is_figure" (defScope s_is_figure) s.heap.objs.size f cdv)) Q E' { s with heap := h1, toks := k } :=
    fun q => wpAny_Name (wpAny_loadName_local rfl rfl hn look q) (by decide)
  refine wpAny_execs_cons (wpAny_Return_some (BoolOp_and (wpAny_Compare1 (Calls.Constant_str (name (PySem.P.le_str (wpAny_truthy_bool ?_)))))))
  rw [zero_le_]
  by_cases h : 48 ≤ c
  · rw [decide_eq_true h]
    refine BoolOp_one (wpAny_Compare1 (name (Calls.Constant_str (PySem.P.le_str ?_))))
    rw [le_nine]
    have e : isFig c = decide (c ≤ 57) := by unfold isFig; rw [decide_eq_true h]; rfl
    exact ⟨by rw [e], fin _⟩
  · rw [decide_eq_false h]
    have e : isFig c = false := by unfold isFig; rw [decide_eq_false h]; rfl
    exact ⟨by rw [e], fin _⟩
theorem ok_number_of (T : Top K mg) (NT : NumT K mg base c Pt fs fds) : Dn P w K mg base "_number_of" 2 ["word"] (spR (RNumOf Pt)) := by
  refine NT.d.ok sc_number_of (fun vs H Q E h => ?_) (fun f A outer s H vs Q E hr h => ?_)
  · obtain ⟨z, ⟨x, rfl, _⟩, _⟩ := h
    rfl
  · obtain ⟨z, ⟨x, rfl, hz, tab, rfl⟩, q⟩ := h
    refine ⟨_, (pss_cons (ps_if (PW.pt (pw_or (pt_cmpR op_lt (pe_callB call_len_str (by rfl) T.z_len PySem.boot_len (pa_cons (pv 0) pa_nil)) pe_int (nomark _)) (pw_or1 (pt_cmpR op_gt (pe_callB call_len_str (by rfl) T.z_len PySem.boot_len (pa_cons (pv 0) pa_nil)) (pe_ci T.c_MOST_FIGURES (by rfl)) (nomark _)))))
        (pss_one (ps_ret (pe_ci T.c_NO_NUMBER (by rfl))))
        pss_nil)
        (pss_cons (ps_if (pt_not (pt_val (pe_allX (x := "sign") hr (by rfl) T.z_all NT.tb rfl (gens_mk rfl rfl (by decide +kernel) rfl rfl) (pv 0) (elt_call (d_fig NT.sm) hr NT.ms NT.sm.kp rfl rfl rfl) (fun _ => rfl))))
        (pss_one (ps_ret (pe_ci T.c_NO_NUMBER (by rfl))))
        pss_nil)
        (pss_cons (ps_if (PW.pt (pw_and (pt_cmpR op_eq (pe_ix ix_str (pv 0) pe_int (fun _ _ => rfl)) pe_str (nomark _)) (pw_and1 (pt_cmpR op_gt (pe_callB call_len_str (by rfl) T.z_len PySem.boot_len (pa_cons (pv 0) pa_nil)) pe_int (nomark _)))))
        (pss_one (ps_ret (pe_ci T.c_NO_NUMBER (by rfl))))
        pss_nil)
        (pss_one (ps_ret (pe_callTy call_int_str (by rfl) T.z_int (by decide +kernel) (pa_cons (pv 0) pa_nil))))))), ?_⟩
    have el : (x.length : Int) = (x.cps.toList.length : Int) := by rw [TL.len_tl]
    have hn : numW x = if (decide (x.cps.toList.length < 1) || decide (6 < x.cps.toList.length)) = true then -1 else if x.cps.toList.all isFig = false then -1 else if x.cps.toList.head? = some 48 ∧ 1 < x.cps.toList.length then -1 else ((NumText.digitsVal x.cps.toList : Nat) : Int) := rfl
    refine q_when (b := decide ((x.length : Int) < 1) || decide ((6 : Int) < x.length)) (et_or (et_test (ev_op (ev_lenS (ev_var rfl) hz) ev_c rv_I0)) fun _ => et_test (ev_op (ev_lenS (ev_var rfl) hz) ev_c rv_I0)) (fun hb H1 e1 => s_ret ev_c fun H2 e2 => ?_) (fun hb H1 e1 => ?_)
    · have z : numW x = -1 := by
        rw [hn, if_pos]
        rw [el] at hb
        rcases Bool.or_eq_true _ _ ▸ hb with h | h
        · rw [decide_eq_true (by have := of_decide_eq_true h; omega)]; rfl
        · rw [decide_eq_true (p := 6 < x.cps.toList.length) (by have := of_decide_eq_true h; omega), Bool.or_true]
      rw [z] at q
      exact q.go (e1.trans e2)
    rw [el] at hb
    obtain ⟨h1, h2⟩ := Bool.or_eq_false_iff.mp hb
    have h1 := of_decide_eq_false h1
    have h2 := of_decide_eq_false h2
    rw [if_neg (by rw [decide_eq_false (by omega), decide_eq_false (by omega)]; decide)] at hn
    refine q_when (b := !x.cps.toList.all isFig) (et_not (et_B (ev_allX (ev_var rfl) (e1 _ _ tab)))) (fun hb H2 e2 => s_ret ev_c fun H3 e3 => ?_) (fun hb H2 e2 => ?_)
    · have z : numW x = -1 := by
        rw [hn, if_pos]
        cases q : x.cps.toList.all isFig with
        | false => rfl
        | true => rw [q] at hb; cases hb
      rw [z] at q
      exact q.go (e1.trans (e2.trans e3))
    have ha : x.cps.toList.all isFig = true := by
      cases q : x.cps.toList.all isFig with
      | true => rfl
      | false => rw [q] at hb; cases hb
    rw [if_neg (by rw [ha]; decide)] at hn
    cases hx : x.cps.toList with
    | nil => rw [hx] at h1; exact absurd h1 (by decide)
    | cons d r =>
      have ei : Ev (tOp rIxS (tVar 0) (tC (.int 0))) [some (.str x), none] H2 (.str ⟨#[d]⟩) := ev_op (ev_var rfl) ev_c (rv_ixS (by rw [TL.len_tl]; show x.cps.toList.length ≤ _; omega) (by rw [hx]; exact atI_nat (j := 0) rfl))
      refine q_when (b := decide (V.str ⟨#[d]⟩ = V.str "0") && decide ((1 : Int) < x.length)) (et_and (et_test (ev_op ei ev_c (rv_eq rfl))) fun _ => et_test (ev_op (ev_lenS (ev_var rfl) hz) ev_c rv_I0)) (fun hb H3 e3 => s_ret ev_c fun H4 e4 => ?_) (fun hb H3 e3 => ?_)
      · have z : numW x = -1 := by
          rw [hn, if_pos]
          rw [el] at hb
          obtain ⟨k1, k2⟩ := Bool.and_eq_true_iff.mp hb
          have k1 := V.str.inj (of_decide_eq_true k1)
          have k3 : ([d] : List Nat) = [48] := congrArg (fun s : Str => s.cps.toList) k1
          exact ⟨by rw [hx]; show some d = _; rw [(List.cons.inj k3).1], by have := of_decide_eq_true k2; omega⟩
        rw [z] at q
        exact q.go (e1.trans (e2.trans (e3.trans e4)))
      · have z : numW x = ((NumText.digitsVal x.cps.toList : Nat) : Int) := by
          rw [hn, if_neg]
          rintro ⟨k1, k2⟩
          rw [hx] at k1
          have k1 : d = 48 := Option.some.inj k1
          rw [el, decide_eq_true (p := (1 : Int) < _) (by omega), Bool.and_true] at hb
          exact of_decide_eq_false hb (by rw [k1]; rfl)
        rw [z] at q
        refine s_ret (ev_cb (ea_cons (ev_var rfl) ea_nil) fun H4 e4 Q q4 => ⟨x, _, rfl, intText_digits (fig_digits ha) (by rw [hx]; simp) (by rw [TL.len_tl]; show x.cps.toList.length ≤ _; omega), by rw [TL.len_tl]; show x.cps.toList.length ≤ _; omega, q4 H4 (Ex.refl H4)⟩) fun H4 e4 => q.go (e1.trans (e2.trans (e3.trans e4)))
end
end LW

namespace LW
open PySem PySem.Spec PyProof.Rows L2 Evl HB HS MB HW HM HI PI MC HJ HG PS PT MD GX MX RH DC RP RQ RM RL RS RT RX RY RZ RA SP SQ TX RD RK
/-- NoText: its own making, its row -/
structure NoTx (K : PySem.W.Frag) (mg : Str → Option Value) (eCueError eNoText : Addr) : Prop where
  g : mg "NoText" = some (.ref eNoText)
  gc : mg "CueError" = some (.ref eCueError)
  i : MD K eNoText "__init__" "NoText.__init__" sNoText__init__ ["self", "row"]
  o : OexC K eNoText
  nr : PySem.W.findIn K (.ref eNoText) "row" = some none
  xf : XfC K eNoText
  ex : ExcC K eNoText
  tc : PySem.W.typeIn K (.ref eCueError) = some (.type "type")
  rd : PySem.W.readsIn K eCueError (.type "type") = true
  ga : PySem.W.specialIn K (.ref eCueError) "__getattribute__" = some (some (.builtin "type.__getattribute__"))
  vv : PySem.W.findCls K (.ref eCueError) (.type "type") "__init__" = some (.val (.builtin "ValueError.__init__"))
section
variable {P : Program} {w : World} {K : PySem.W.Frag} {mg : Str → Option Value} {base : Heap} {eCueError eNoText : Addr}
theorem okm_NoText (N : NoTx K mg eCueError eNoText) : MOk P w K mg base eNoText "__init__" 1 ["self", "row"] [] (spNoTextI eNoText) := by
  refine N.i.ok scNoText__init__ (fun vs H Q E h => ?_) (fun f cdv A outer s H vs Q E hr h => ?_)
  · obtain ⟨a, i, rfl, _⟩ := h
    rfl
  · obtain ⟨a, i, rfl, i1, i2, ha, q⟩ := h
    refine ⟨_, (pss_cons (ps_expr (pe_baseinit (by rfl) N.gc N.tc N.rd N.ga N.vv (pa_cons (pv 0) (pa_cons (pe_joined (.cons pe_str (.cons (pe_fmt (pv 1)) (.cons pe_str .nil)))) pa_nil)))) (pss_one (ps_ost (pv 0) (pv 1)))), ?_⟩
    have l1 := sI_len i1 i2
    refine q_dropQ ((ea_cons (ev_var rfl) (ea_cons (ev_joined (z := _) (.cons ev_c (.cons (ev_fmtI (ev_var rfl) i1 i2) (.cons ev_c .nil))) ?_ rfl) ea_nil)) H (Ex.refl H) _ fun H1 e1 => ⟨a, eNoText, _, rfl, by show 1 ≤ 1000; decide, N.o, e1 _ _ ha, ?_⟩)
    · simp only [List.map_cons, List.map_nil, List.sum_cons, List.sum_nil]
      have l2 : ("row " : Str).length = 4 := by decide
      have l3 : (" writes no part of a play" : Str).length = 25 := by decide
      omega
    · exact (ev_var rfl) H1 (Ex.refl H1) _ fun H2 e2 => (ev_var rfl) H2 (Ex.refl H2) _ fun H3 e3 => ⟨a, eNoText, rfl, N.o, N.nr, .inl ⟨e3 _ _ (e2 _ _ (e1 _ _ ha)), fun dx nd ne => q H3 dx (e1.trans (e2.trans e3)) nd ne⟩⟩
end
end LW

namespace LW
open PySem PySem.Spec PyProof.Rows L2 Evl HB HS MB HW HM HI PI MC HJ HG PS PT MD GX MX RH DC RP RQ RM RL RS RT RX RY RZ RA SP SQ TX RD
structure Exs (K : PySem.W.Frag) (mg : Str → Option Value) (eCueError eNoCue eTaken eTooMany eNoLamp eNoLevel eNoTime : Addr) : Prop where
  g_CueError : mg "CueError" = some (.ref eCueError)
  x_NoCue : PySem.W.exmOne K (.ref eNoCue) (.ref eCueError) = some true
  x_Taken : PySem.W.exmOne K (.ref eTaken) (.ref eCueError) = some true
  x_TooMany : PySem.W.exmOne K (.ref eTooMany) (.ref eCueError) = some true
  x_NoLamp : PySem.W.exmOne K (.ref eNoLamp) (.ref eCueError) = some true
  x_NoLevel : PySem.W.exmOne K (.ref eNoLevel) (.ref eCueError) = some true
  x_NoTime : PySem.W.exmOne K (.ref eNoTime) (.ref eCueError) = some true
section
variable {P : Program} {w : World} {K : PySem.W.Frag} {mg : Str → Option Value} {base : Heap} {eNoCue eTaken eTooMany eNoLamp eNoLevel eNoTime eNoText cCue cPlay cReader eCueError c Pt fs c2 Pt2 fs2 : Addr} {fds fds2 : FuncData} {At : AtT}
/-! ### Reader -/
theorem okc_Reader (T : Top K mg) (G : Prg K mg eNoCue eTaken eTooMany eNoLamp eNoLevel eNoTime eNoText cCue cPlay cReader) (L : Pl P w K mg base cPlay At) : COk P w K mg base cReader 21 ["self"] (spReaderI cReader At) := by
  refine G.i_Reader.ok scReader__init__ (fun vs H Q E h => ?_) (fun f cdv A outer s H vs Q E hr h => ?_)
  · obtain ⟨x, dx, ls, rfl, _⟩ := h
    rfl
  · obtain ⟨x, dx, ls, rfl, hx, tabs, lok, few, q⟩ := h
    have hu := hu_of hr
    refine ⟨_, (pss_cons (ps_fld (pv 0) (L.new _ _ _ rfl rfl rfl rfl rfl (hr.mono (by decide)) (by rfl)) rfl)
        (pss_cons (ps_fld (pv 0) pe_int rfl)
        (pss_one (ps_fld (pv 0) pe_str rfl)))), ?_⟩
    refine ⟨tabs, ls, lok, few, fun H1 p fp hA new e1 => (ev_var rfl) H1 (Ex.refl H1) _ fun H2 e2 => ⟨x, cReader, dx, [], rfl, (e1.trans e2) _ _ hx, G.k_Reader, G.n_Reader_play, by decide, ?_⟩⟩
    have nfx : ¬ fp x := fun z => by rw [new x z] at hx; cases hx
    have ntx : ¬ At.tb x := fun z => by
      have : H x = some _ := tabs x z
      rw [hx] at this; cases this
    have nn : ¬ (fp x ∨ At.tb x) := fun z => z.elim nfx ntx
    have hA3 := L.off (L.ex hA e2) nn (.ins cReader dx (putF "play" (.ref p) []))
    have k3 : ∀ b o, H b = some o → b ≠ x → (upd H2 x (.ins cReader dx (putF "play" (.ref p) []))) b = some o := fun b o hb ne => by rw [upd_ne ne]; exact e2 _ _ (e1 _ _ hb)
    have hx3 : (upd H2 x (.ins cReader dx (putF "play" (.ref p) []))) x = some (.ins cReader dx (putF "play" (.ref p) [])) := upd_same
    dsimp only
    generalize upd H2 x (.ins cReader dx (putF "play" (.ref p) [])) = H3 at hA3 k3 hx3
    refine q_fld (v := .int 0) ev_c (ev_var rfl) hx3 G.k_Reader G.n_Reader_number len1 fun H4 e4 => ?_
    have hA4 := L.off (L.ex hA3 e4) nn (.ins cReader dx (putF "number" (.int 0) (putF "play" (.ref p) [])))
    refine s_fld (v := .str Str.empty) ev_c (ev_var rfl) upd_same G.k_Reader G.n_Reader_lamp len2 fun H5 e5 => ?_
    rw [rfs_mk]
    exact q _ p fp ⟨⟨dx, upd_same⟩, L.off (L.ex hA4 e5) nn _, nn, .inl ⟨rfl, rfl⟩⟩ new fun b o hb ne => by
      rw [upd_ne ne]
      exact e5 _ _ (by rw [upd_ne ne]; exact e4 _ _ (k3 b o hb ne))
theorem put_exm (EX : Exs K mg eCueError eNoCue eTaken eTooMany eNoLamp eNoLevel eNoTime) (i : Nat) : PySem.W.exmOne K (.ref (putE eNoCue eTaken eNoTime eTooMany i)) (.ref eCueError) = some true := by
  unfold putE
  split
  · exact EX.x_NoCue
  split
  · exact EX.x_Taken
  split
  · exact EX.x_NoTime
  · exact EX.x_TooMany
theorem ask_exm (EX : Exs K mg eCueError eNoCue eTaken eTooMany eNoLamp eNoLevel eNoTime) (i : Nat) : PySem.W.exmOne K (.ref (askE eNoCue eNoLamp eNoLevel i)) (.ref eCueError) = some true := by
  unfold askE
  split
  · exact EX.x_NoCue
  split
  · exact EX.x_NoLamp
  · exact EX.x_NoLevel
theorem okm_takes_cue (T : Top K mg) (G : Prg K mg eNoCue eTaken eTooMany eNoLamp eNoLevel eNoTime eNoText cCue cPlay cReader) (L : Pl P w K mg base cPlay At) (U : RdU P w K mg base cPlay At (putE eNoCue eTaken eNoTime eTooMany) (askE eNoCue eNoLamp eNoLevel)) (EX : Exs K mg eCueError eNoCue eTaken eTooMany eNoLamp eNoLevel eNoTime) (NT : NumT K mg base c2 Pt2 fs2 fds2) (htb : At.tb Pt2) :
    MOk P w K mg base cReader "_takes_cue" 5 ["self", "words", "fresh"] [] (spTakesCue K cReader At) := by
  refine G.m_Reader__takes_cue.ok scReader_takes_cue (fun vs H Q E h => ?_) (fun f cdv A outer s H vs Q E hr h => ?_)
  · obtain ⟨r, wa, fr, p, ls, s, fp, ws, b, c, d, rfl, _⟩ := h
    rfl
  · obtain ⟨r, wa, fr, p, ls, s, fp, ws, b, c, d, rfl, rd, hws, a1, a2, a3, l1, l2, l3, q1, q0⟩ := h
    have hu := hu_of hr
    refine ⟨_, (pss_cons (ps_set (i := 3) scReader_takes_cue.nd rfl (.inl rfl) (pe_dn (ok_number_of T NT) (hr.mono (by decide)) (by rfl) (pa_cons (pe_ix (r := rIxL K) ix_list (pv 1) pe_int (fun _ _ => rfl)) pa_nil)))
        (pss_cons (ps_if (pt_cmpR op_le (pv 3) (pe_fld (pv 0) rfl) (nomark _))
        (pss_one (ps_ret pe_bl))
        pss_nil)
        (pss_cons (ps_try_only rfl rfl ⟨by rfl, by decide, .inl EX.g_CueError⟩ (takes_of rfl rfl rfl rfl) (fun W pn xe tk _ =>
        (pss_one (ps_expr (pe_moS U.p4 L.cls (hr.mono (by decide)) (fun σ => passAt tk σ) (pe_fldK (K := K) (pv 0) rfl) (pa_cons (pv 3) (pa_cons (pe_dn (ok_number_of T NT) (hr.mono (by decide)) (by rfl) (pa_cons (pe_ix (r := rIxL K) ix_list (pv 1) pe_int (fun _ _ => rfl)) pa_nil)) (pa_cons (pe_dn (ok_number_of T NT) (hr.mono (by decide)) (by rfl) (pa_cons (pe_ix (r := rIxL K) ix_list (pv 1) pe_int (fun _ _ => rfl)) pa_nil)) (pa_cons (pv 2) pa_nil)))))))) (fun a oe cls d pn hz hf =>
        (pss_one (ps_ret pe_bl))))
        (pss_cons (ps_fld (pv 0) (pv 3) rfl)
        (pss_cons (ps_fld (pv 0) pe_str rfl)
        (pss_one (ps_ret pe_bl))))))), ?_⟩
    have tab : ∀ {H1 : Hp}, Ex H H1 → TabX H1 Pt2 := fun e => e _ _ (L.tabs rd.pl htb).1
    have num : ∀ {H1 : Hp} {σ : L2.St} {i : Int} {x : Str}, Ex H H1 → σ[1]? = some (some (.ref wa)) → atI (ws.map V.str) i = some (.str x) → x.length ≤ sizeLine → Ev (tCall (spR (RNumOf Pt2)) [] E0 (tCons (tOp (rIxL K) (tVar 1) (tC (.int i))) tNil)) σ H1 (.int (numW x)) := fun {H1 σ i x} e g hx hl =>
      ev_callR (ea_cons (ev_ixK (ev_var g) ev_c (ex_l e hws) hx) ea_nil) fun H2 e2 => ⟨x, rfl, hl, tab (e.trans e2), rfl⟩
    refine q_asg (v := .int (numW b)) (num (Ex.refl H) rfl a1 l1) fun H1 e1 => ?_
    have rd1 := rd.ex L e1
    obtain ⟨dx, ob1⟩ := rd1.ob
    refine q_when (b := decide (numW b ≤ s.n)) (et_test (ev_op (ev_var rfl) (ev_fld (ev_var rfl) ob1 G.k_Reader G.n_Reader_number (rfs_num _ _ _)) rv_I0)) (fun hb H2 e2 => ?_) fun hb H2 e2 => ?_
    · have z : takeCue s (numW b) (numW c) (numW d) fr = none := by unfold takeCue; rw [if_pos (of_decide_eq_true hb)]
      exact s_ret ev_c fun H3 e3 => q0 z H3 (e1.trans (e2.trans e3))
    have e12 := e1.trans e2
    have rd2 := rd1.ex L e2
    obtain ⟨dx2, ob2⟩ := rd2.ob
    obtain ⟨dp, fsp, hip, hlp⟩ := L.ins rd2.pl
    have nb := of_decide_eq_false hb
    refine q_tryQ (t_moS (ev_fld (ev_var rfl) ob2 G.k_Reader G.n_Reader_play (rfs_play _ _ _)) hip (hlp "put" (by decide)) (ea_cons (ev_var rfl) (ea_cons (num e12 rfl a2 l2) (ea_cons (num e12 rfl a3 l3) (ea_cons (ev_var rfl) ea_nil)))) fun H3 e3 => ?_)
    have rd3 := rd2.ex L e3
    refine ⟨p, ls, s.B, fp, .int (numW b), _, .int (numW c), _, .int (numW d), _, fr, rfl, rd3.pl, .int _, .int _, .int _, fun z n up down en eu ed gn H4 fp4 hA4 v4 => ?_, fun z H4 e4 => ?_⟩
    · cases en; cases eu; cases ed
      have zt : takeCue s (numW b) (numW c) (numW d) fr = some ⟨s.B ++ [⟨numW b, numW c, numW d, fr, []⟩], numW b, Str.empty⟩ := by
        unfold takeCue
        rw [if_neg nb, if_pos z]
      obtain ⟨_, q1⟩ := q1 _ zt
      obtain ⟨dx3, ob3⟩ := rd3.ob
      obtain ⟨ob4, nr4⟩ := v4.off ob3 (fun z => rd3.nr (.inl z))
      have ntr : ¬ At.tb r := fun z => rd3.nr (.inr z)
      refine q_fld (v := .int (numW b)) (ev_var rfl) (ev_var rfl) ob4 G.k_Reader G.n_Reader_number (by show 3 < 100; decide) fun H5 e5 => ?_
      rw [rfs_set]
      refine q_fld (v := .str Str.empty) ev_c (ev_var rfl) upd_same G.k_Reader G.n_Reader_lamp (by show 3 < 100; decide) fun H6 e6 => ?_
      rw [rfs_setL]
      have nn : ¬ (fp4 r ∨ At.tb r) := fun z => z.elim nr4 ntr
      have hA5 := L.off (L.ex hA4 e5) nn (.ins cReader dx3 (rfs p (numW b) s.l))
      refine s_ret ev_c fun H7 e7 => ?_
      have mvR : Mv (RJ r fp) H (RJ r fp4) (upd H5 r (.ins cReader dx3 (rfs p (numW b) s.l))) := mv_reader (e12.trans e3) v4 e5 _
      refine q1 H7 fp4 ⟨⟨dx3, e7 _ _ upd_same⟩, L.ex (L.off (L.ex hA5 e6) nn _) e7, nn, .inr (List.mem_map.mpr ⟨_, List.mem_append_right _ List.mem_cons_self, rfl⟩)⟩ ⟨fun x u hx n => e7 _ _ (by
        rw [upd_ne fun z => n (.inl z)]
        exact e6 _ _ (mvR.keep x u hx n)), mvR.grow⟩
    · have zt : takeCue s (numW b) (numW c) (numW d) fr = none := by
        unfold takeCue
        rw [if_neg nb, if_neg z]
      exact ⟨true, put_exm EX _, fun _ g ng => s_ret ev_c fun H5 e5 => q0 zt H5 (e12.trans (e3.trans (e4.trans e5))), fun z => nomatch z⟩
theorem okm_takes_word (T : Top K mg) (G : Prg K mg eNoCue eTaken eTooMany eNoLamp eNoLevel eNoTime eNoText cCue cPlay cReader) (L : Pl P w K mg base cPlay At) (U : RdU P w K mg base cPlay At (putE eNoCue eTaken eNoTime eTooMany) (askE eNoCue eNoLamp eNoLevel)) (EX : Exs K mg eCueError eNoCue eTaken eTooMany eNoLamp eNoLevel eNoTime) (NT : NumT K mg base c2 Pt2 fs2 fds2) (htb : At.tb Pt2) :
    MOk P w K mg base cReader "_takes_word" 5 ["self", "lamp", "level"] [] (spTakesWord cReader At) := by
  refine G.m_Reader__takes_word.ok scReader_takes_word (fun vs H Q E h => ?_) (fun f cdv A outer s H vs Q E hr h => ?_)
  · obtain ⟨r, l, v, p, ls, s, fp, rfl, _⟩ := h
    rfl
  · obtain ⟨r, l, v, p, ls, s, fp, rfl, rd, hl, q1, q0⟩ := h
    have hu := hu_of hr
    refine ⟨_, (pss_cons (ps_if (pt_cmpR op_le_str (pv 1) (pe_fld (pv 0) rfl) (nomark _))
        (pss_one (ps_ret pe_bl))
        pss_nil)
        (pss_cons (ps_try_only rfl rfl ⟨by rfl, by decide, .inl EX.g_CueError⟩ (takes_of rfl rfl rfl rfl) (fun W pn xe tk _ =>
        (pss_one (ps_expr (pe_moS U.tell L.cls (hr.mono (by decide)) (fun σ => passAt tk σ) (pe_fldK (K := K) (pv 0) rfl) (pa_cons (pe_fldK (K := K) (pv 0) rfl) (pa_cons (pv 1) (pa_cons (pv 2) pa_nil))))))) (fun a oe cls d pn hz hf =>
        (pss_one (ps_ret pe_bl))))
        (pss_cons (ps_fld (pv 0) (pv 1) rfl)
        (pss_one (ps_ret pe_bl))))), ?_⟩
    obtain ⟨dx, ob⟩ := rd.ob
    refine q_when (b := !decide (tlt s.l l)) (et_test (ev_op (ev_var rfl) (ev_fld (ev_var rfl) ob G.k_Reader G.n_Reader_lamp (rfs_lamp _ _ _)) rv_leS)) (fun hb H1 e1 => ?_) fun hb H1 e1 => ?_
    · have z : takeWord s l v = none := by
        unfold takeWord
        rw [if_pos]
        intro z
        rw [decide_eq_true z] at hb
        cases hb
      exact s_ret ev_c fun H3 e3 => q0 z H3 (e1.trans e3)
    have lt : tlt s.l l := by
      by_cases z : tlt s.l l
      · exact z
      · rw [decide_eq_false z] at hb; cases hb
    have rd1 := rd.ex L e1
    obtain ⟨dx1, ob1⟩ := rd1.ob
    obtain ⟨dp, fsp, hip, hlp⟩ := L.ins rd1.pl
    refine q_tryQ (t_moS (ev_fld (ev_var rfl) ob1 G.k_Reader G.n_Reader_play (rfs_play _ _ _)) hip (hlp "tell" (by decide)) (ea_cons (ev_fld (ev_var rfl) ob1 G.k_Reader G.n_Reader_number (rfs_num _ _ _)) (ea_cons (ev_var rfl) (ea_cons (ev_var rfl) ea_nil))) fun H3 e3 => ?_)
    have rd3 := rd1.ex L e3
    refine ⟨p, .int s.n, .str l, .int v, ls, s.B, fp, _, _, _, rfl, rd3.pl, .int _, .str _, .int _, fun t e => by cases e; exact hl, fun z H4 e4 => ?_, fun z n l' v' en el ev => ?_⟩
    · have zt : takeWord s l v = none := by
        unfold takeWord
        rw [if_neg (fun n => n lt), if_neg z]
      exact ⟨true, ask_exm EX _, fun _ g ng => s_ret ev_c fun H5 e5 => q0 zt H5 (e1.trans (e3.trans (e4.trans e5))), fun z => nomatch z⟩
    · cases en; cases el; cases ev
      have zt : takeWord s l v = some ⟨setW s.B s.n l v, s.n, l⟩ := by
        unfold takeWord
        rw [if_neg (fun n => n lt), if_pos z]
      obtain ⟨gn, q1⟩ := q1 _ zt
      have hnB : s.n ∈ s.B.map (·.n) := by
        by_cases hi : inB s.B (.int s.n) = false
        · rw [due_cue hi] at z; cases z
        · have := b_false hi
          rw [inB_int] at this
          exact of_decide_eq_true this
      have hls : l ∈ ls := by
        obtain ⟨d, hd, ed⟩ := List.mem_map.mp hnB
        have hm : ({ d with ws := wput d.ws l v } : Cu) ∈ setW s.B s.n l v := List.mem_map.mpr ⟨d, hd, if_pos ed⟩
        have hw : wlook (wput d.ws l v) l = some v := by rw [wlook_wput, if_pos rfl]
        exact gn.lam _ hm _ (wlook_mem hw)
      refine ⟨hls, fun H4 fp4 hA4 v4 => ?_⟩
      obtain ⟨dx3, ob3⟩ := rd3.ob
      obtain ⟨ob4, nr4⟩ := v4.off ob3 (fun z => rd3.nr (.inl z))
      have nn : ¬ (fp4 r ∨ At.tb r) := fun z => z.elim nr4 fun z => rd3.nr (.inr z)
      refine q_fld (v := .str l) (ev_var rfl) (ev_var rfl) ob4 G.k_Reader G.n_Reader_lamp (by show 3 < 100; decide) fun H5 e5 => ?_
      rw [rfs_setL]
      have hA5 := L.off (L.ex hA4 e5) nn (.ins cReader dx3 (rfs p s.n l))
      have mvR : Mv (RJ r fp) H (RJ r fp4) (upd H5 r (.ins cReader dx3 (rfs p s.n l))) := mv_reader (e1.trans e3) v4 e5 _
      refine s_ret ev_c fun H7 e7 => q1 H7 fp4 ⟨⟨dx3, e7 _ _ upd_same⟩, L.ex hA5 e7, nn, .inr (by show s.n ∈ (setW s.B s.n l v).map (·.n); rw [setW_nums]; exact hnB)⟩ (mvR.trans (Mv.of_ex e7))
theorem rdU_ok (T : Top K mg) (G : Prg K mg eNoCue eTaken eTooMany eNoLamp eNoLevel eNoTime eNoText cCue cPlay cReader) (TB : LampT K mg base c Pt fs fds) (tb : Addr → Prop) (htb : tb Pt) : RdU P w K mg base cPlay (playAt cPlay cCue tb True True) (putE eNoCue eTaken eNoTime eTooMany) (askE eNoCue eNoLamp eNoLevel) :=
  ⟨(okm_put4 T G).imp putX_R, (okm_tell T G TB).imp (tellX_R htb)⟩
theorem numT_mk (d : DfC K mg "_number_of" "_number_of" s_number_of ["word"] c2) (tb : GxR.TabB base mg c2 Pt2) (sm : Fun K "_is_figure" "_is_figure" s_is_figure fs2 fds2) (ms : mg "_is_figure" = some (.ref fs2)) : NumT K mg base c2 Pt2 fs2 fds2 := ⟨d, tb, sm, ms⟩
end
end LW

namespace LW
open PySem PySem.Spec PyProof.Rows L2 Evl HB HS MB HW HM HI PI MC HJ HG PS PT MD GX MX RH DC RP RQ RM RL RS RT RX RY RZ RA SP SQ TX RD
section
variable {P : Program} {w : World} {K : PySem.W.Frag} {mg : Str → Option Value} {base : Heap} {eNoCue eTaken eTooMany eNoLamp eNoLevel eNoTime eNoText cCue cPlay cReader eCueError c Pt fs c2 Pt2 fs2 : Addr} {fds fds2 : FuncData} {At : AtT}
/-! ### takes -/
theorem okm_takes (T : Top K mg) (G : Prg K mg eNoCue eTaken eTooMany eNoLamp eNoLevel eNoTime eNoText cCue cPlay cReader) (L : Pl P w K mg base cPlay At) (U : RdU P w K mg base cPlay At (putE eNoCue eTaken eNoTime eTooMany) (askE eNoCue eNoLamp eNoLevel)) (EX : Exs K mg eCueError eNoCue eTaken eTooMany eNoLamp eNoLevel eNoTime) (NT : NumT K mg base c2 Pt2 fs2 fds2) (htb : At.tb Pt2) :
    MOk P w K mg base cReader "takes" 7 ["self", "row"] [] (spTakes cReader At) := by
  refine G.m_Reader_takes.ok scReadertakes (fun vs H Q E h => ?_) (fun f cdv A outer s H vs Q E hr h => ?_)
  · obtain ⟨r, row, p, ls, s, fp, rfl, _⟩ := h
    rfl
  · obtain ⟨r, row, p, ls, s, fp, rfl, rd, hl, dn⟩ := h
    have hu := hu_of hr
    refine ⟨_, (pss_cons (ps_set (i := 2) scReadertakes.nd rfl (.inl rfl) (pe_split (pv 1) pe_str))
        (pss_cons (ps_if (pt_cmpR op_eq (pe_callB call_len_seq (by rfl) T.z_len PySem.boot_len (pa_cons (pv 2) pa_nil)) pe_int (nomark _))
        (pss_one (ps_ret (pe_mo (okm_takes_word T G L U EX NT htb) G.k_Reader (hr.mono (by decide)) passL (pv 0) (pa_cons (pe_ix (r := rIxL K) ix_list (pv 2) pe_int (fun _ _ => rfl)) (pa_cons (pe_dn (ok_number_of T NT) (hr.mono (by decide)) (by rfl) (pa_cons (pe_ix (r := rIxL K) ix_list (pv 2) pe_int (fun _ _ => rfl)) pa_nil)) pa_nil)))))
        pss_nil)
        (pss_cons (ps_if (PW.pt (pw_and (pt_cmpR op_eq (pe_callB call_len_seq (by rfl) T.z_len PySem.boot_len (pa_cons (pv 2) pa_nil)) pe_int (nomark _)) (pw_and1 (pt_cmpR op_eq (pe_ix (r := rIxL K) ix_list (pv 2) pe_int (fun _ _ => rfl)) (TX.pe_cs T.s_CUE_WORD (by rfl)) (nomark _)))))
        (pss_one (ps_ret (pe_mo (okm_takes_cue T G L U EX NT htb) G.k_Reader (hr.mono (by decide)) passL (pv 0) (pa_cons (pv 2) (pa_cons pe_bl pa_nil)))))
        pss_nil)
        (pss_cons (ps_if (PW.pt (pw_and (pt_cmpR op_eq (pe_callB call_len_seq (by rfl) T.z_len PySem.boot_len (pa_cons (pv 2) pa_nil)) pe_int (nomark _)) (pw_and (pt_cmpR op_eq (pe_ix (r := rIxL K) ix_list (pv 2) pe_int (fun _ _ => rfl)) (TX.pe_cs T.s_CUE_WORD (by rfl)) (nomark _)) (pw_and1 (pt_cmpR op_eq (pe_ix (r := rIxL K) ix_list (pv 2) pe_int (fun _ _ => rfl)) (TX.pe_cs T.s_FRESH_WORD (by rfl)) (nomark _))))))
        (pss_one (ps_ret (pe_mo (okm_takes_cue T G L U EX NT htb) G.k_Reader (hr.mono (by decide)) passL (pv 0) (pa_cons (pv 2) (pa_cons pe_bl pa_nil)))))
        pss_nil)
        (pss_one (ps_ret pe_bl)))))), ?_⟩
    obtain ⟨dx, ob⟩ := rd.ob
    have wl : ∀ x ∈ Txt.split row " ", x.length ≤ sizeLine := fun x hx => by have := split_sp hx; omega
    obtain ⟨ws, hws⟩ : ∃ ws, ws = Txt.split row " " := ⟨_, rfl⟩
    rw [← hws] at wl
    have dn : DoneT cReader At r p ls fp (takeWs s ws) H Q := by rw [hws]; exact dn
    refine q_asgL (xs := ws.map V.str) (by rw [hws]; exact el_split (ev_var rfl) ev_c (by decide) hl) fun wa H1 nw e1 hw => ?_
    have rd1 := rd.ex L e1
    have tab : ∀ {H2 : Hp}, Ex H1 H2 → TabX H2 Pt2 := fun e => (e1.trans e) _ _ (L.tabs rd.pl htb).1
    have dn1 : DoneT cReader At r p ls fp (takeWs s ws) H1 Q := ⟨fun s' e => ⟨(dn.1 s' e).1, fun H' fp' h v => (dn.1 s' e).2 H' fp' h ((Mv.of_ex e1).trans v)⟩, fun e H2 e2 => dn.2 e H2 (e1.trans e2)⟩
    have mono : ∀ {H2 : Hp} {o : Option RSt}, Ex H1 H2 → DoneT cReader At r p ls fp o H1 Q → DoneT cReader At r p ls fp o H2 Q := fun {H2 o} ex d => ⟨fun s' e => ⟨(d.1 s' e).1, fun H' fp' h v => (d.1 s' e).2 H' fp' h ((Mv.of_ex ex).trans v)⟩, fun e H3 e3 => d.2 e H3 (ex.trans e3)⟩
    clear dn
    have self : ∀ {m : Str} {H2 : Hp}, Ex H1 H2 → ¬ m = "play" → ¬ m = "number" → ¬ m = "lamp" → ∃ dx fs, H2 r = some (.ins cReader dx fs) ∧ fs.lookup m = none := fun {m H2} e h1 h2 h3 => by
      obtain ⟨dx, ob⟩ := rd1.ob
      exact ⟨dx, _, e _ _ ob, rfs_no _ _ _ h1 h2 h3⟩
    have len : ∀ {σ : L2.St} {H2 : Hp} {n : Int}, Ex H1 H2 → σ[2]? = some (some (.ref wa)) → EvT (tTest (tOp rEq (tCB (fun xs H Q => ∃ p ys, xs = [V.ref p] ∧ (SqL K H p ys ∨ SqT K H p ys) ∧ Q (.int ys.length) H) (tCons (tVar 2) tNil)) (tC (.int n)))) σ H2 (decide (V.int (ws.length : Int) = V.int n)) := fun {σ H2 n} e g => by
      have h := ev_len (K := K) (ev_var g) (SqL.of (e _ _ hw))
      rw [List.length_map] at h
      exact et_test (ev_op h ev_c (rv_eq rfl))
    have two : ∀ {σ : L2.St} {H2 : Hp} {i : Int} {x z : Str}, Ex H1 H2 → σ[2]? = some (some (.ref wa)) → atI (ws.map V.str) i = some (.str x) → EvT (tTest (tOp rEq (tOp (rIxL K) (tVar 2) (tC (.int i))) (tC (.str z)))) σ H2 (decide (V.str x = V.str z)) := fun {σ H2 i x z} e g h =>
      et_test (ev_op (ev_ixK (K := K) (ev_var g) ev_c (.of (e _ _ hw)) h) ev_c (rv_eq rfl))
    have ne : ∀ {a b : Int}, a ≠ b → decide (V.int a = V.int b) = false := fun h => decide_eq_false fun z => h (V.int.inj z)
    have num : ∀ {H2 : Hp} {σ : L2.St} {i : Int} {x : Str}, Ex H1 H2 → σ[2]? = some (some (.ref wa)) → atI (ws.map V.str) i = some (.str x) → x.length ≤ sizeLine → Ev (tCall (spR (RNumOf Pt2)) [] E0 (tCons (tOp (rIxL K) (tVar 2) (tC (.int i))) tNil)) σ H2 (.int (numW x)) := fun {H2 σ i x} e g hx hl =>
      ev_callR (ea_cons (ev_ixK (ev_var g) ev_c (.of (e _ _ hw)) hx) ea_nil) fun H3 e3 => ⟨x, rfl, hl, tab (e.trans e3), rfl⟩
    by_cases h2 : ws.length = 2
    · rcases ws with _ | ⟨a, _ | ⟨b, _ | ⟨c, rest⟩⟩⟩
      · cases h2
      · cases h2
      · refine q_when (b := true) (et_is (len (Ex.refl _) rfl) rfl) (fun _ H2 e2 => ?_) fun hb => absurd hb (by decide)
        obtain ⟨dx2, fs2, ob2, lk2⟩ := self (m := "_takes_word") e2 (by decide +kernel) (by decide +kernel) (by decide +kernel)
        exact t_mo (E := E0) (ev_var rfl) ob2 lk2 (ea_cons (ev_ixK (K := K) (v := .str a) (ev_var rfl) ev_c (.of (e2 _ _ hw)) (atI_nat (j := 0) rfl)) (ea_cons (num (x := b) e2 rfl (atI_nat (j := 1) rfl) (wl b (List.mem_cons_of_mem _ List.mem_cons_self))) ea_nil)) fun H3 e3 => ⟨r, a, numW b, p, ls, s, fp, rfl, rd1.ex L (e2.trans e3), wl a List.mem_cons_self, mono (e2.trans e3) dn1⟩
      · simp only [List.length_cons] at h2; omega
    refine q_when (b := false) (et_is (len (Ex.refl _) rfl) (ne (by omega))) (fun hb => absurd hb (by decide)) fun _ H2 e2 => ?_
    have no5 : ∀ {σ : L2.St} {H3 : Hp} {D : Ends} {tu tw : TS} {t2 : TT}, Ex H1 H3 → ws.length ≠ 5 → σ[2]? = some (some (.ref wa)) → (∀ H4, Ex H3 H4 → tw D σ H4) → tSeq (tIfS (tAnd (tTest (tOp rEq (tCB (fun xs H Q => ∃ p ys, xs = [V.ref p] ∧ (SqL K H p ys ∨ SqT K H p ys) ∧ Q (.int ys.length) H) (tCons (tVar 2) tNil)) (tC (.int 5)))) t2) tu tNext) tw D σ H3 := fun e h g k =>
      q_when (b := false && false) (et_and (et_is (len e g) (ne (by omega))) fun z => absurd z (by decide)) (fun hb => absurd hb (by decide)) fun _ H4 e4 => k H4 e4
    by_cases h4 : ws.length = 4
    · rcases ws with _ | ⟨a, _ | ⟨b, _ | ⟨c, _ | ⟨d, _ | ⟨x, rest⟩⟩⟩⟩⟩
      · cases h4
      · cases h4
      · cases h4
      · cases h4
      · refine q_when (b := true && decide (V.str a = V.str "cue")) (et_and (et_is (len e2 rfl) rfl) fun _ => two (x := a) e2 rfl (atI_nat (j := 0) rfl)) (fun hb H3 e3 => ?_) fun hb H3 e3 => ?_
        · have ea : a = "cue" := V.str.inj (of_decide_eq_true (by simpa using hb))
          have dn2 : DoneT cReader At r p ls fp (takeCue s (numW b) (numW c) (numW d) false) H1 Q := by
            have e : takeWs s [a, b, c, d] = takeCue s (numW b) (numW c) (numW d) false := if_pos ea
            rw [e] at dn1
            exact dn1
          have e23 := e2.trans e3
          obtain ⟨dx2, fs2, ob2, lk2⟩ := self (m := "_takes_cue") e23 (by decide +kernel) (by decide +kernel) (by decide +kernel)
          exact t_mo (E := E0) (ev_var rfl) ob2 lk2 (ea_cons (ev_var rfl) (ea_cons ev_c ea_nil)) fun H4 e4 => ⟨r, wa, false, p, ls, s, fp, [a, b, c, d], b, c, d, rfl, rd1.ex L (e23.trans e4), .of ((e23.trans e4) _ _ hw), atI_nat (j := 1) rfl, atI_nat (j := 2) rfl, atI_nat (j := 3) rfl, wl b (by simp), wl c (by simp), wl d (by simp), mono (e23.trans e4) dn2⟩
        · refine no5 (e2.trans e3) (by show ¬ (4 = 5); decide) rfl fun H4 e4 => s_ret ev_c fun H5 e5 => dn1.2 ?_ H5 ((e2.trans e3).trans (e4.trans e5))
          have ea : ¬ a = "cue" := fun z => by
            rw [z] at hb
            exact absurd hb (by decide)
          exact if_neg ea
      · simp only [List.length_cons] at h4; omega
    refine q_when (b := false && false) (et_and (et_is (len e2 rfl) (ne (by omega))) fun z => absurd z (by decide)) (fun hb => absurd hb (by decide)) fun _ H3 e3 => ?_
    have e23 := e2.trans e3
    by_cases h5 : ws.length = 5
    · rcases ws with _ | ⟨a, _ | ⟨b, _ | ⟨c, _ | ⟨d, _ | ⟨x, _ | ⟨y, rest⟩⟩⟩⟩⟩⟩
      · cases h5
      · cases h5
      · cases h5
      · cases h5
      · cases h5
      · refine q_when (b := true && (decide (V.str a = V.str "cue") && decide (V.str x = V.str "fresh"))) (et_and (et_is (len e23 rfl) rfl) fun _ => et_and (two (x := a) e23 rfl (atI_nat (j := 0) rfl)) fun _ => two (x := x) e23 rfl (atI_nat (j := 4) rfl)) (fun hb H4 e4 => ?_) fun hb H4 e4 => ?_
        · rw [Bool.true_and, Bool.and_eq_true] at hb
          have ea : a = "cue" := V.str.inj (of_decide_eq_true hb.1)
          have ex : x = "fresh" := V.str.inj (of_decide_eq_true hb.2)
          have dn2 : DoneT cReader At r p ls fp (takeCue s (numW b) (numW c) (numW d) true) H1 Q := by
            have e : takeWs s [a, b, c, d, x] = takeCue s (numW b) (numW c) (numW d) true := if_pos ⟨ea, ex⟩
            rw [e] at dn1
            exact dn1
          have e24 := e23.trans e4
          obtain ⟨dx2, fs2, ob2, lk2⟩ := self (m := "_takes_cue") e24 (by decide +kernel) (by decide +kernel) (by decide +kernel)
          exact t_mo (E := E0) (ev_var rfl) ob2 lk2 (ea_cons (ev_var rfl) (ea_cons ev_c ea_nil)) fun H5 e5 => ⟨r, wa, true, p, ls, s, fp, [a, b, c, d, x], b, c, d, rfl, rd1.ex L (e24.trans e5), .of ((e24.trans e5) _ _ hw), atI_nat (j := 1) rfl, atI_nat (j := 2) rfl, atI_nat (j := 3) rfl, wl b (by simp), wl c (by simp), wl d (by simp), mono (e24.trans e5) dn2⟩
        · refine s_ret ev_c fun H5 e5 => dn1.2 ?_ H5 (e23.trans (e4.trans e5))
          refine if_neg fun z => ?_
          rw [z.1, z.2] at hb
          exact absurd hb (by decide)
      · simp only [List.length_cons] at h5; omega
    refine no5 e23 h5 rfl fun H4 e4 => s_ret ev_c fun H5 e5 => dn1.2 ?_ H5 (e23.trans (e4.trans e5))
    rcases ws with _ | ⟨a, _ | ⟨b, _ | ⟨c, _ | ⟨d, _ | ⟨x, _ | ⟨y, rest⟩⟩⟩⟩⟩⟩
    · rfl
    · rfl
    · exact absurd rfl h2
    · rfl
    · exact absurd rfl h4
    · exact absurd rfl h5
    · rfl
end
end LW

namespace LW
open PySem PySem.Spec PyProof.Rows L2 Evl HB HS MB HW HM HI PI MC HJ HG PS PT MD GX MX RH DC RP RQ RM RL RS RT RX RY RZ RA SP SQ TX RD RK
section
variable {P : Program} {w : World} {K : PySem.W.Frag} {mg : Str → Option Value} {base : Heap} {eNoCue eTaken eTooMany eNoLamp eNoLevel eNoTime eNoText cCue cPlay cReader eCueError c Pt fs c2 Pt2 fs2 : Addr} {fds fds2 : FuncData} {At : AtT}
/-! ### read -/
theorem ok_read (T : Top K mg) (G : Prg K mg eNoCue eTaken eTooMany eNoLamp eNoLevel eNoTime eNoText cCue cPlay cReader) (L : Pl P w K mg base cPlay At) (U : RdU P w K mg base cPlay At (putE eNoCue eTaken eNoTime eTooMany) (askE eNoCue eNoLamp eNoLevel)) (EX : Exs K mg eCueError eNoCue eTaken eTooMany eNoLamp eNoLevel eNoTime) (NT : NumT K mg base c2 Pt2 fs2 fds2) (htb : At.tb Pt2) (N : NoTx K mg eCueError eNoText) :
    DnX P w K mg base "read" 24 ["text"] (spReadX At eNoText) := by
  refine T.d_read.okX scread (fun vs H Q E h => ?_) (fun f cdv A outer s H vs Q E hr h => ?_)
  · obtain ⟨t, last, rs, ls, rfl, _⟩ := h
    rfl
  · obtain ⟨t, last, rs, ls, rfl, tabs, lok, few, ht, hrs, hsp, hG, q, q2, q3⟩ := h
    have hu := hu_of hr
    refine ⟨_, (pss_cons (ps_if (pt_cmpR op_notTyB (pe_callTy call_type1 (by rfl) T.z_type (by decide +kernel) (pa_cons (pv 0) pa_nil)) (pe_ty (T := "str") T.z_str (by rfl) (by decide +kernel)) (nomark _))
        (pss_one (RK.ps_raiseT (okm_NoText N) N.o rfl (hr.mono (by decide)) (by rfl) N.g (pa_cons pe_int pa_nil)))
        pss_nil)
        (pss_cons (ps_set (i := 1) scread.nd rfl (.inl rfl) (pe_co0 (okc_Reader T G L) (hr.mono (by decide)) (by rfl) G.g_Reader passL))
        (pss_cons (ps_set (i := 2) scread.nd rfl (.inl rfl) (pe_split (pv 0) pe_str))
        (pss_cons (ps_set (i := 3) scread.nd rfl (.inl rfl) (pe_op op_sub (pe_callB call_len_seq (by rfl) T.z_len PySem.boot_len (pa_cons (pv 2) pa_nil)) pe_int))
        (pss_cons (ps_for (passes_of rfl) rfl (pi_range1 (by rfl) T.z_range (pa_cons (pv 3) pa_nil)) (pg_name (i := 4) scread.nd rfl (.inl rfl))
        (pss_one (ps_if (pt_not (pt_val (pe_mo (okm_takes T G L U EX NT htb) G.k_Reader (hr.mono (by decide)) passL (pv 1) (pa_cons (pe_ix (r := rIxL K) ix_list (pv 2) (pv 4) (fun _ _ => rfl)) pa_nil))))
        (pss_one (RK.ps_raiseT (okm_NoText N) N.o rfl (hr.mono (by decide)) (by rfl) N.g (pa_cons (pv 4) pa_nil)))
        pss_nil)))
        (pss_cons (ps_if (pt_cmpR op_ne (pe_ix (r := rIxL K) ix_list (pv 2) (pv 3) (fun _ _ => rfl)) pe_str (nomark _))
        (pss_one (RK.ps_raiseT (okm_NoText N) N.o rfl (hr.mono (by decide)) (by rfl) N.g (pa_cons (pv 3) pa_nil)))
        pss_nil)
        (pss_one (ps_ret (pe_fld (pv 1) rfl))))))))), ?_⟩
    have z1 : sizeLine = 16777216 := sizeLine_eq
    refine q_when (b := false) (et_is (et_test (ev_op (ev_type (ev_var rfl) (.str t)) ev_c rv_NT)) (by decide +kernel)) (fun hb => absurd hb (by decide)) fun _ H1 e1 => ?_
    refine q_asgQ (t_make ea_nil fun H2 r dx e2 nx ndx nex => ?_)
    have up2 : ∀ {b : Addr} {o : HO}, H2 b = some o → (upd (upd H2 dx (.own r)) r (.ins cReader dx [])) b = some o := fun {b o} hb => by
      have n1 : b ≠ r := fun z => by rw [z, nx] at hb; cases hb
      have n2 : b ≠ dx := fun z => by rw [z, ndx] at hb; cases hb
      rw [upd_ne n1, upd_ne n2]
      exact hb
    refine ⟨r, dx, ls, rfl, upd_same, fun b hb => up2 (e2 _ _ (e1 _ _ (tabs b hb))), lok, few, fun H3 p fp rd new kp => ⟨rfl, ?_⟩⟩
    have e23 : Ex H2 H3 := fun b o hb => kp b o (up2 hb) fun z => by rw [z, nx] at hb; cases hb
    have e03 := e1.trans (e2.trans e23)
    have nr0 : H r = none := fresh_back (e1.trans e2) nx
    have back : ∀ {b : Addr}, (upd (upd H2 dx (.own r)) r (.ins cReader dx [])) b = none → H b = none := fun {b} hb => by
      cases hq : H b with
      | none => rfl
      | some o => rw [up2 (e2 _ _ (e1 _ _ hq))] at hb; cases hb
    have newJ : ∀ b, RJ r fp b → H b = none := fun b hb => hb.elim (fun z => by rw [z]; exact nr0) fun z => back (new b z)
    try dsimp only
    refine q_asgL (xs := (rs ++ [last]).map V.str) (by rw [← hsp]; exact el_split (ev_var rfl) ev_c (by decide) (by omega)) fun la H4 nl e4 hl => ?_
    have rd4 := rd.ex L e4
    have nJl : ¬ RJ r fp la := fun z => by
      rcases z with z | z
      · obtain ⟨dx2, ob⟩ := rd.ob
        rw [z, ob] at nl; cases nl
      · obtain ⟨u, hu⟩ := L.known rd.pl z
        rw [nl] at hu; cases hu
    have elen : ((((rs ++ [last]).map V.str).length : Nat) : Int) - 1 = (rs.length : Int) := by
      rw [List.length_map, List.length_append]
      show ((rs.length + 1 : Nat) : Int) - 1 = _
      omega
    refine q_asg (v := .int (rs.length : Int)) (ev_is (ev_op (ev_len (ev_var rfl) (.of hl)) ev_c rv_I0) (by rw [elen])) fun H5 e5 => ?_
    refine q_forR1 (n := (rs.length : Int)) (ea_cons (ev_var rfl) ea_nil) ⟨by omega, by omega⟩ (fun i σ' H' => ∃ y4 s fp, σ' = [some (.str t), some (.ref r), some (.ref la), some (.int (rs.length : Int)), y4] ∧ AllG ls (rs.drop i) s ∧ goT (rs.drop i) i s = goT rs 0 s0 ∧ Rdr cReader At H' r p ls s fp ∧ Ex H H' ∧ H' la = some (.lst ((rs ++ [last]).map V.str)) ∧ ¬ RJ r fp la ∧ ∀ b, RJ r fp b → H b = none)
      (fun H6 e6 => ⟨_, s0, fp, rfl, hG, rfl, rd4.ex L (e5.trans e6), e03.trans (e4.trans (e5.trans e6)), e6 _ _ (e5 _ _ hl), nJl, newJ⟩) (fun i σ' H' hi => ?_) fun σ' H' => ?_
    · rintro ⟨y4, s, fp, rfl, hG, hT, rd, e, hl, nJl, newJ⟩
      have lt : i < rs.length := by omega
      have hd : rs.drop i = rs[i] :: rs.drop (i + 1) := List.drop_eq_getElem_cons lt
      rw [hd] at hG hT
      obtain ⟨dxr, obr⟩ := rd.ob
      have rl : rs[i].length + 2 ≤ sizeLine := by
        have := split_nl (x := t) (p := rs[i]) (by rw [hsp]; exact List.mem_append_left _ (List.getElem_mem lt))
        omega
      refine s_ifNotM (ev_var rfl) obr (rfs_no _ _ _ (by decide +kernel) (by decide +kernel) (by decide +kernel)) (ea_cons (ev_ixK (K := K) (v := .str rs[i]) (ev_var rfl) (ev_var rfl) (.of hl) (atI_nat (by rw [List.getElem?_map, List.getElem?_append_left lt, List.getElem?_eq_getElem lt]; rfl))) ea_nil) fun H6 e6 => ?_
      refine ⟨r, rs[i], p, ls, s, fp, rfl, rd.ex L e6, rl, fun s2 e2 => ?_, fun z H7 e7 => ⟨false, rfl, ?_⟩⟩
      · refine ⟨(hG.2 s2 e2).head, fun H7 fp7 rd7 v7 => ⟨true, rfl, ?_⟩⟩
        rw [if_neg (by decide)]
        have v := (Mv.of_ex (fp := RJ r fp) e6).trans v7
        obtain ⟨hl7, nl7⟩ := v7.off (e6 _ _ hl) nJl
        have hT1 : goT (rs.drop (i + 1)) (i + 1) s2 = goT rs 0 s0 := by
          rw [← hT]
          show _ = (match takeRow s rs[i] with | none => (.inr i : RSt ⊕ Nat) | some s' => goT (rs.drop (i + 1)) (i + 1) s')
          rw [e2]
        exact ⟨_, s2, fp7, rfl, hG.2 s2 e2, hT1, rd7, mv_ex (e.trans e6) v7 newJ, hl7, nl7, mv_new (e.trans e6) v7 newJ⟩
      · rw [if_pos (by decide)]
        have hT1 : goT rs 0 s0 = .inr i := by
          rw [← hT]
          show (match takeRow s rs[i] with | none => (.inr i : RSt ⊕ Nat) | some s' => goT (rs.drop (i + 1)) (i + 1) s') = _
          rw [z]
        exact t_raiseT (ev_var rfl) (by omega) (by omega) ((q3 i hT1 lt).mono (e.trans (e6.trans e7)))
    · rintro ⟨y4, s, fp, rfl, hG, hT, rd, e, hl, nJl, newJ⟩
      have hd : rs.drop ((rs.length : Int)).toNat = [] := by rw [Int.toNat_natCast, List.drop_length]
      rw [hd] at hT
      have hT : goT rs 0 s0 = .inl s := hT.symm
      have elast : Ev (tOp (rIxL K) (tVar 2) (tVar 3)) [some (.str t), some (.ref r), some (.ref la), some (.int (rs.length : Int)), y4] H' (.str last) := ev_ixK (K := K) (ev_var rfl) (ev_var rfl) (.of hl) (atI_nat (by rw [List.getElem?_map, List.getElem?_append_right (Nat.le_refl _), Nat.sub_self]; rfl))
      refine q_when (b := !decide (V.str last = V.str "")) (et_test (ev_op elast ev_c (rv_ne rfl))) (fun hb H6 e6 => ?_) fun hb H6 e6 => ?_
      · have hne : last ≠ Str.empty := fun z => by
          rw [z] at hb
          exact absurd hb (by decide)
        exact t_raiseT (ev_var rfl) (by omega) (by omega) ((q2 s hT hne).mono (e.trans e6))
      · have he : last = Str.empty := by
          have h1 : decide (V.str last = V.str "") = true := by
            cases h : decide (V.str last = V.str "") with
            | true => rfl
            | false => rw [h] at hb; cases hb
          exact V.str.inj (of_decide_eq_true h1)
        obtain ⟨dxr, obr⟩ := rd.ob
        exact s_ret (ev_fld (ev_var rfl) (e6 _ _ obr) G.k_Reader G.n_Reader_play (rfs_play _ _ _)) fun H7 e7 => q s hT he p fp H7 (L.ex rd.pl (e6.trans e7)) (fun b hb => newJ b (.inr hb)) (e.trans (e6.trans e7))
end
end LW

namespace LW
open PySem PySem.Spec PyProof.Rows L2 Evl HB HS MB HW
section
variable {P : Program} {w : World} {K : PySem.W.Frag} {mg : Str → Option Value} {base : Heap}
/-! ### _law_mixed -/
def mix1 (c k : Int) : Int := (c + 7919 * k + 104729) * 48271 % 2147483647
def mixed (c k : Int) : Int := (mix1 c k * mix1 c k + 69621 * mix1 c k) % 2147483629 / 7
theorem mix1_in (c k : Int) : 0 ≤ mix1 c k ∧ mix1 c k < 2147483647 := ⟨Int.emod_nonneg _ (by decide), Int.emod_lt_of_pos _ (by decide)⟩
theorem mixed_in (c k : Int) : 0 ≤ mixed c k ∧ mixed c k < 306783376 := by
  have h1 := Int.emod_nonneg (mix1 c k * mix1 c k + 69621 * mix1 c k) (show (2147483629 : Int) ≠ 0 by decide)
  have h2 := Int.emod_lt_of_pos (mix1 c k * mix1 c k + 69621 * mix1 c k) (show (0 : Int) < 2147483629 by decide)
  unfold mixed
  omega
def RMixed (vs : List V) (z : V) : Prop := ∃ c k : Int, vs = [.int c, .int k] ∧ z = .int (mixed c k)
theorem ok_law_mixed (T : Top K mg) : Dn P w K mg base "_law_mixed" 1 ["_law_cell_here", "_law_k"] (spS RMixed) := by
  refine T.d__law_mixed.ok sc_law_mixed (fun vs H Q E h => ?_) (fun f cdv A outer s H vs Q E hr h => ?_)
  · obtain ⟨z, ⟨c, k, rfl, _⟩, _⟩ := h
    rfl
  · obtain ⟨z, ⟨c, k, rfl, rfl⟩, q⟩ := h
    refine ⟨_, (pss_cons (ps_set (i := 2) sc_law_mixed.nd rfl (.inl rfl) (pe_op op_mod (pe_op op_mul (pe_op op_add (pe_op op_add (pv 0) (pe_op op_mul pe_int (pv 1))) pe_int) pe_int) pe_int))
        (pss_one (ps_ret (pe_op op_fdiv (pe_op op_mod (pe_op op_add (pe_op op_mul (pv 2) (pv 2)) (pe_op op_mul pe_int (pv 2))) pe_int) pe_int)))), ?_⟩
    have hm := mix1_in c k
    refine q_asg (v := .int (mix1 c k)) (ev_op (ev_op (ev_op (ev_op (ev_var rfl) (ev_op ev_c (ev_var rfl) (rv_I (.inl ⟨by decide, by decide⟩))) rv_I0) ev_c rv_I0) ev_c (rv_I (.inr ⟨by decide, by decide⟩))) ev_c (rv_I (by decide))) fun H1 e1 => ?_
    refine s_ret (v := .int (mixed c k)) (ev_op (ev_op (ev_op (ev_op (ev_var rfl) (ev_var rfl) (rv_I (.inl ⟨by omega, by omega⟩))) (ev_op ev_c (ev_var rfl) (rv_I (.inl ⟨by decide, by decide⟩))) rv_I0) ev_c (rv_I (by decide))) ev_c (rv_I ⟨by decide, by decide⟩)) fun H2 e2 => q.go (e1.trans e2)
/-! ### _law_cell -/
def cellOf (ns : List Int) (k : Int) : Int := if k < (ns.length : Int) then ns.getD k.toNat 0 else 31 * k
def RCell (K : PySem.W.Frag) (H : Hp) (vs : List V) (z : V) : Prop := ∃ (a : Addr) (ns : List Int) (k : Int), vs = [.ref a, .int k] ∧ SqL K H a (ns.map V.int) ∧ 0 ≤ k ∧ z = .int (cellOf ns k)
theorem ok_law_cell (T : Top K mg) : Dn P w K mg base "_law_cell" 1 ["_law_script", "_law_k"] (spR (RCell K)) := by
  refine T.d__law_cell.ok sc_law_cell (fun vs H Q E h => ?_) (fun f cdv A outer s H vs Q E hr h => ?_)
  · obtain ⟨z, ⟨a, ns, k, rfl, _⟩, _⟩ := h
    rfl
  · obtain ⟨z, ⟨a, ns, k, rfl, hS, h0, rfl⟩, q⟩ := h
    refine ⟨_, (pss_cons (ps_if (pt_cmpR op_lt (pv 1) (pe_callB call_len_seq (by rfl) T.z_len PySem.boot_len (pa_cons (pv 0) pa_nil)) (nomark _))
        (pss_one (ps_ret (pe_ix (r := rIxL K) ix_list (pv 0) (pv 1) (fun _ _ => rfl))))
        pss_nil)
        (pss_one (ps_ret (pe_op op_mul pe_int (pv 1))))), ?_⟩
    unfold cellOf at q
    refine q_when (et_test (ev_op (ev_var rfl) (ev_len (ev_var rfl) hS) rv_I0)) (fun hb H1 e1 => ?_) (fun hb H1 e1 => ?_)
    · have hb := of_decide_eq_true hb
      rw [List.length_map] at hb
      rw [if_pos hb] at q
      obtain ⟨j, rfl⟩ := Int.eq_ofNat_of_zero_le h0
      have hj : j < ns.length := by omega
      refine s_ret (v := .int (ns.getD j 0)) (ev_ixK (ev_var rfl) (ev_var rfl) (ex_l e1 hS) (atI_nat ?_)) fun H2 e2 => ?_
      · rw [List.getElem?_map, List.getElem?_eq_getElem hj, List.getD_eq_getElem?_getD, List.getElem?_eq_getElem hj]
        rfl
      · exact q.go (e1.trans e2)
    · have hb := of_decide_eq_false hb
      rw [List.length_map] at hb
      rw [if_neg hb] at q
      exact s_ret (ev_op ev_c (ev_var rfl) (rv_I (.inl ⟨by decide, by decide⟩))) fun H2 e2 => q.go (e1.trans e2)
/-! ### _law_numbers -/
def numsOf (c : Int) : List Int := [1, 2, 3, 10, 20 + c % 999000, 20 + c % 999000 + 1, 20 + c % 999000 + 2, 999998, 999999]
def RNums (H : Hp) (vs xs : List V) : Prop := ∃ c : Int, vs = [.int c] ∧ xs = (numsOf c).map V.int
theorem ok_law_numbers (T : Top K mg) : Dn P w K mg base "_law_numbers" 1 ["_law_cell_here"] (spL RNums) := by
  refine T.d__law_numbers.ok sc_law_numbers (fun vs H Q E h => ?_) (fun f cdv A outer s H vs Q E hr h => ?_)
  · obtain ⟨z, ⟨c, rfl, _⟩, _⟩ := h
    rfl
  · obtain ⟨z, ⟨c, rfl, rfl⟩, q⟩ := h
    refine ⟨_, (pss_cons (ps_set (i := 1) sc_law_numbers.nd rfl (.inl rfl) (pe_op op_add pe_int (pe_op op_mod (pv 0) pe_int)))
        (pss_one (ps_ret (pe_lst (pa_cons pe_int (pa_cons pe_int (pa_cons pe_int (pa_cons pe_int (pa_cons (pv 1) (pa_cons (pe_op op_add (pv 1) pe_int) (pa_cons (pe_op op_add (pv 1) pe_int) (pa_cons pe_int (pa_cons pe_int pa_nil))))))))))))), ?_⟩
    refine q_asg (v := .int (20 + c % 999000)) (ev_op ev_c (ev_op (ev_var rfl) ev_c (rv_I (by decide))) rv_I0) fun H1 e1 => ?_
    exact s_retL (xs := (numsOf c).map V.int) (el_lst (ea_cons ev_c (ea_cons ev_c (ea_cons ev_c (ea_cons ev_c (ea_cons (ev_var rfl) (ea_cons (ev_op (ev_var rfl) ev_c rv_I0) (ea_cons (ev_op (ev_var rfl) ev_c rv_I0) (ea_cons ev_c (ea_cons ev_c ea_nil))))))))) (by show 9 ≤ 100000; decide)) fun p H2 hp e2 h2 => q.go e1 hp e2 h2
/-! ### _law_level -/
def RLevel (H : Hp) (vs : List V) (z : V) : Prop := ∃ (m : Addr) (R : List CRow) (n : Int) (l : Str), vs = [.ref m, .int n, .str l] ∧ MAt H m R ∧ z = .int (lvl (bk R) n l)
theorem ok_law_level (T : Top K mg) : Dn P w K mg base "_law_level" 1 ["_law_model", "_law_number", "_law_lamp"] (spR RLevel) := by
  refine T.d__law_level.ok sc_law_level (fun vs H Q E h => ?_) (fun f cdv A outer s H vs Q E hr h => ?_)
  · obtain ⟨z, ⟨m, R, n, l, rfl, _⟩, _⟩ := h
    rfl
  · obtain ⟨z, ⟨m, R, n, l, rfl, hM, rfl⟩, q⟩ := h
    have hu := hu_of hr
    refine ⟨_, (pss_cons (ps_for PassesOwn.never rfl (pi_list (pe_callBK (cr_sortDR (b := true) rfl) (by rfl) T.z_sorted (by decide +kernel) (pa_cons (pv 0) pa_nil) (pk_cons pe_bl pk_nil))) (pg_name (i := 3) sc_law_level.nd rfl (.inl rfl))
        (pss_cons (ps_if (PW.pt (pw_and (pt_cmpR op_le (pv 3) (pv 1) (nomark _)) (pw_and1 (pt_cmp (pc_din hu (pv 2) (pe_ix (r := rIxL K) ix_list (pe_dget hu (pv 0) (pv 3) (fun _ _ => rfl)) pe_int (fun _ _ => rfl)))))))
        (pss_one (ps_ret (pe_dget hu (pe_ix (r := rIxL K) ix_list (pe_dget hu (pv 0) (pv 3) (fun _ _ => rfl)) pe_int (fun _ _ => rfl)) (pv 2) (fun _ _ => rfl))))
        pss_nil)
        (pss_one (ps_if (PW.pt (pw_and (pt_cmpR op_le (pv 3) (pv 1) (nomark _)) (pw_and1 (pt_val (pe_ix (r := rIxL K) ix_list (pe_dget hu (pv 0) (pv 3) (fun _ _ => rfl)) pe_int (fun _ _ => rfl))))))
        (pss_one (ps_ret pe_int))
        pss_nil))))
        (pss_one (ps_ret pe_int))), ?_⟩
    have mem : ∀ c ∈ desc (bk R), ∃ r ∈ R, r.c = c := fun c hc => by
      obtain ⟨r, hr, e⟩ := List.mem_map.mp ((desc_perm (bk R)).mem_iff.mp hc)
      exact ⟨r, hr, e⟩
    unfold lvl at q
    refine q_forNLn (el_sortDR (ev_var rfl) hM (ea_cons ev_c ea_nil)) (fun p i σ H' => ∃ y, σ = [some (.ref m), some (.int n), some (.str l), y] ∧ Ex H H' ∧ H' p = some (.lst ((desc (bk R)).map fun c => V.int c.n)) ∧
        lvlD (((desc (bk R)).drop i).filter fun c => decide (c.n ≤ n)) l = lvlD ((desc (bk R)).filter fun c => decide (c.n ≤ n)) l)
      (fun p H1 _ e1 h1 => ⟨none, rfl, e1, h1, rfl⟩) (fun p i σ H' _ ⟨_, _, _, h, _⟩ => .of h) (fun p i x σ H' hx => ?_) (fun p σ H' => ?_)
    · rintro ⟨y, rfl, e, hp, hl⟩
      rw [List.getElem?_map] at hx
      obtain ⟨c, hc, rfl⟩ := Option.map_eq_some_iff.mp hx
      have hi := (List.getElem?_eq_some_iff.mp hc).1
      obtain ⟨r, hr, rfl⟩ := mem c (List.mem_of_getElem? hc)
      have hM2 := hM.ex e
      have hd : (desc (bk R)).drop i = r.c :: (desc (bk R)).drop (i + 1) := by
        rw [List.drop_eq_getElem_cons hi]
        have : (desc (bk R))[i] = r.c := Option.some.inj ((List.getElem?_eq_getElem hi).symm.trans hc)
        rw [this]
      have key : Ev (tDIn (tVar 2) (tOp (rIxL K) (tDGet (tVar 0) (tVar 3)) (tC (.int 3)))) [some (.ref m), some (.int n), some (.str l), some (.int r.c.n)] H' (.bl (wlook r.c.ws l).isSome) := by
        have h := ev_din (k := .inr l) (ev_var (σ := [some (.ref m), some (.int n), some (.str l), some (.int r.c.n)]) (i := 2) rfl) (ev_words (K := K) hM2 hr (ev_var (i := 0) rfl) (ev_var (i := 3) rfl) ev_c) (.inl (hM2.row r hr).2)
        rw [val_wkv, Option.isSome_map] at h
        exact h
      rw [hd, List.filter_cons] at hl
      by_cases hn : r.c.n ≤ n
      · rw [decide_eq_true hn, if_pos rfl] at hl
        cases hw : wlook r.c.ws l with
        | some v =>
          have hv : lvlD (r.c :: ((desc (bk R)).drop (i + 1)).filter fun c => decide (c.n ≤ n)) l = v := by unfold lvlD; rw [hw]
          rw [← hl, hv] at q
          refine q_when (b := true && true) (et_and (et_is (et_test (ev_op (ev_var rfl) (ev_var rfl) rv_I0)) (decide_eq_true hn)) fun _ => et_is (et_B key) (by rw [hw]; rfl)) (fun _ H1 e1 => ?_) (fun hb => absurd hb (by decide))
          have hM3 := hM2.ex e1
          refine s_ret (v := .int v) (ev_dget (k := .inr l) (ev_words hM3 hr (ev_var rfl) (ev_var rfl) ev_c) (ev_var rfl) (.inl (hM3.row r hr).2) (by rw [val_wkv, hw]; rfl)) fun H2 e2 => q.go ((e.trans e1).trans e2)
        | none =>
          refine q_when (b := true && false) (et_and (et_is (et_test (ev_op (ev_var rfl) (ev_var rfl) rv_I0)) (decide_eq_true hn)) fun _ => et_is (et_B key) (by rw [hw]; rfl)) (fun hb => absurd hb (by decide)) (fun _ H1 e1 => ?_)
          have hM3 := hM2.ex e1
          refine s_when (b := true && r.c.fr) (et_and (et_is (et_test (ev_op (ev_var rfl) (ev_var rfl) rv_I0)) (decide_eq_true hn)) fun _ => et_B (ev_fresh hM3 hr (ev_var rfl) (ev_var rfl) ev_c)) (fun hb H2 e2 => ?_) (fun hb H2 e2 => ?_)
          · have hf : r.c.fr = true := hb
            have hv : lvlD (r.c :: ((desc (bk R)).drop (i + 1)).filter fun c => decide (c.n ≤ n)) l = 0 := by unfold lvlD; rw [hw]; exact if_pos hf
            rw [← hl, hv] at q
            exact s_ret ev_c fun H3 e3 => q.go (((e.trans e1).trans e2).trans e3)
          · have hf : r.c.fr = false := hb
            have hv : lvlD (r.c :: ((desc (bk R)).drop (i + 1)).filter fun c => decide (c.n ≤ n)) l = lvlD (((desc (bk R)).drop (i + 1)).filter fun c => decide (c.n ≤ n)) l := by
              conv => lhs; unfold lvlD
              rw [hw]
              exact if_neg (by rw [hf]; decide)
            exact ⟨_, rfl, (e.trans e1).trans e2, e2 _ _ (e1 _ _ hp), by rw [← hl, hv]⟩
      · rw [decide_eq_false hn, if_neg (by decide)] at hl
        refine q_when (b := false && true) (et_and (et_is (et_test (ev_op (ev_var rfl) (ev_var rfl) rv_I0)) (decide_eq_false hn)) fun h => absurd h (by decide)) (fun hb => absurd hb (by decide)) (fun _ H1 e1 => ?_)
        refine s_when (b := false && true) (et_and (et_is (et_test (ev_op (ev_var rfl) (ev_var rfl) rv_I0)) (decide_eq_false hn)) fun h => absurd h (by decide)) (fun hb => absurd hb (by decide)) (fun _ H2 e2 => ?_)
        exact ⟨_, rfl, (e.trans e1).trans e2, e2 _ _ (e1 _ _ hp), hl⟩
    · rintro ⟨y, rfl, e, hp, hl⟩
      rw [List.length_map, List.drop_length] at hl
      have h0 : lvlD (([] : List Cu).filter fun c => decide (c.n ≤ n)) l = 0 := rfl
      rw [← hl, h0] at q
      exact s_ret ev_c fun H1 e1 => q.go (e.trans e1)
end
end LW

namespace LW
open PySem PySem.Spec PyProof.Rows L2 Evl HB HS MB HW PI MC
section
variable {P : Program} {w : World} {K : PySem.W.Frag} {mg : Str → Option Value} {base : Heap}
/-! ### _law_lamps -/
def letters : Str := "abcdefghijklmnopqrstuvwxyz"
theorem letters_eq : letters.cps.toList = (List.range 26).map (97 + ·) := by decide +kernel
theorem letter_at {i : Int} (h0 : 0 ≤ i) (h1 : i < 26) : atI letters.cps.toList i = some (97 + i.toNat) := by
  obtain ⟨j, rfl⟩ := Int.eq_ofNat_of_zero_le h0
  refine atI_nat ?_
  rw [letters_eq, List.getElem?_map, List.getElem?_range (by omega)]
  rfl
def lampS (c : Int) (k : Nat) : Str :=
  ⟨(List.replicate (c / 208 % (1 + c % 8)).toNat (97 + (c / 8 % 26).toNat) ++ ([97 + ((c / 1664 + 5 * (k : Int)) % 26).toNat] ++ List.replicate ((1 + c % 8).toNat - (c / 208 % (1 + c % 8)).toNat - 1) (97 + (c / 8 % 26).toNat))).toArray⟩
def lampsOf (c : Int) : List Str := (List.range 6).map (lampS c)
theorem lamp_len (c : Int) (k : Nat) : (lampS c k).length = (1 + c % 8).toNat := by
  have h1 : 0 ≤ c / 208 % (1 + c % 8) := Int.emod_nonneg _ (by omega)
  have h2 : c / 208 % (1 + c % 8) < 1 + c % 8 := Int.emod_lt_of_pos _ (by omega)
  show (List.toArray _).size = _
  rw [List.size_toArray, List.length_append, List.length_append, List.length_replicate, List.length_replicate, List.length_singleton]
  omega
theorem lamp_ok (c : Int) (k : Nat) : LampOk (lampS c k) := by
  refine ⟨?_, ?_, fun d hd => ?_⟩
  · rw [lamp_len]; omega
  · rw [lamp_len]; omega
  · have hd : d ∈ List.replicate (c / 208 % (1 + c % 8)).toNat (97 + (c / 8 % 26).toNat) ++ ([97 + ((c / 1664 + 5 * (k : Int)) % 26).toNat] ++ List.replicate ((1 + c % 8).toNat - (c / 208 % (1 + c % 8)).toNat - 1) (97 + (c / 8 % 26).toNat)) := by
      have e : (lampS c k).cps.toList = _ := List.toList_toArray
      rw [e] at hd
      exact hd
    rcases List.mem_append.mp hd with h | h
    · obtain ⟨_, rfl⟩ := List.mem_replicate.mp h
      omega
    · rcases List.mem_append.mp h with h | h
      · rw [List.mem_singleton.mp h]
        omega
      · obtain ⟨_, rfl⟩ := List.mem_replicate.mp h
        omega
theorem lamps_ok {c : Int} {s : Str} (h : s ∈ lampsOf c) : LampOk s := by
  obtain ⟨k, _, rfl⟩ := List.mem_map.mp h
  exact lamp_ok c k
theorem lamp_cut (c : Int) (k : Nat) :
    (cutS ⟨(List.replicate (1 + c % 8).toNat (97 + (c / 8 % 26).toNat)).toArray⟩ none (some (c / 208 % (1 + c % 8))) ++ ⟨#[97 + ((c / 1664 + 5 * (k : Int)) % 26).toNat]⟩) ++
      cutS ⟨(List.replicate (1 + c % 8).toNat (97 + (c / 8 % 26).toNat)).toArray⟩ (some (c / 208 % (1 + c % 8) + 1)) none = lampS c k := by
  have h1 : 0 ≤ c / 208 % (1 + c % 8) := Int.emod_nonneg _ (by omega)
  have h2 : c / 208 % (1 + c % 8) < 1 + c % 8 := Int.emod_lt_of_pos _ (by omega)
  have h3 : 1 ≤ 1 + c % 8 := by omega
  unfold lampS
  generalize c / 208 % (1 + c % 8) = sp at *
  generalize 1 + c % 8 = sz at *
  generalize 97 + (c / 8 % 26).toNat = b
  generalize 97 + ((c / 1664 + 5 * (k : Int)) % 26).toNat = g
  obtain ⟨i, rfl⟩ := Int.eq_ofNat_of_zero_le h1
  obtain ⟨n, rfl⟩ := Int.eq_ofNat_of_zero_le (by omega : 0 ≤ sz)
  have hn : (⟨(List.replicate (n : Int).toNat b).toArray⟩ : Str).length = n := by
    show (List.toArray _).size = n
    rw [List.size_toArray, List.length_replicate, Int.toNat_natCast]
  have e1 : ((i : Int) + 1) = ((i + 1 : Nat) : Int) := by omega
  refine PyProof.Rows.ext_toList ?_
  show TL.tl _ = _
  rw [TL.tl_append, TL.tl_append]
  unfold cutS
  rw [hn, e1, HT.sIx_none, HT.sIx_none, HT.sIx_nat, HT.sIx_nat]
  show (List.toArray _).toList ++ [g] ++ (List.toArray _).toList = _
  rw [List.toList_toArray, List.toList_toArray, List.toList_toArray, List.toList_toArray, Int.toNat_natCast, Int.toNat_natCast, List.drop_zero, List.take_replicate, List.drop_replicate, List.take_replicate, List.append_assoc]
  have q1 : min (min i n - 0) n = i := by omega
  have q2 : min (n - min (i + 1) n) (n - min (i + 1) n) = n - i - 1 := by omega
  rw [q1, q2]
def RLamps (H : Hp) (vs xs : List V) : Prop := ∃ c : Int, 0 ≤ c ∧ vs = [.int c] ∧ xs = (lampsOf c).map V.str
theorem ok_law_lamps (T : Top K mg) : Dn P w K mg base "_law_lamps" 1 ["_law_cell_here"] (spL RLamps) := by
  refine T.d__law_lamps.ok sc_law_lamps (fun vs H Q E h => ?_) (fun f cdv A outer s H vs Q E hr h => ?_)
  · obtain ⟨z, ⟨c, _, rfl, _⟩, _⟩ := h
    rfl
  · obtain ⟨z, ⟨c, h0, rfl, rfl⟩, q⟩ := h
    refine ⟨_, (pss_cons (ps_set (i := 1) sc_law_lamps.nd rfl (.inl rfl) pe_str)
        (pss_cons (ps_set (i := 2) sc_law_lamps.nd rfl (.inl rfl) (pe_op op_add pe_int (pe_op op_mod (pv 0) pe_int)))
        (pss_cons (ps_set (i := 3) sc_law_lamps.nd rfl (.inl rfl) (pe_op op_repS (pe_ix ix_str (pv 1) (pe_op op_mod (pe_op op_fdiv (pv 0) pe_int) pe_int) (fun _ _ => rfl)) (pv 2)))
        (pss_cons (ps_set (i := 4) sc_law_lamps.nd rfl (.inl rfl) (pe_op op_mod (pe_op op_fdiv (pv 0) pe_int) (pv 2)))
        (pss_cons (ps_set (i := 5) sc_law_lamps.nd rfl (.inl rfl) (pe_lst pa_nil))
        (pss_cons (ps_for PassesOwn.never rfl (pi_range1 (by rfl) T.z_range (pa_cons pe_int pa_nil)) (pg_name (i := 6) sc_law_lamps.nd rfl (.inl rfl))
        (pss_cons (ps_set (i := 7) sc_law_lamps.nd rfl (.inl rfl) (pe_ix ix_str (pv 1) (pe_op op_mod (pe_op op_add (pe_op op_fdiv (pv 0) pe_int) (pe_op op_mul pe_int (pv 6))) pe_int) (fun _ _ => rfl)))
        (pss_one (ps_expr (pe_bm PySem.F.plainAttrs_list PySem.F.slot_list_append PySem.F.type_list_append mt_append (pv 5) (pa_cons (pe_op op_add_str (pe_op op_add_str (pe_slice sl_str (pv 3) po_none (po_some (pv 4))) (pv 7)) (pe_slice sl_str (pv 3) (po_some (pe_op op_add (pv 4) pe_int)) po_none)) pa_nil))))))
        (pss_one (ps_ret (pv 5))))))))), ?_⟩
    have hz : 1 ≤ 1 + c % 8 ∧ 1 + c % 8 ≤ 8 := by omega
    have blen : (⟨(List.replicate (1 + c % 8).toNat (97 + (c / 8 % 26).toNat)).toArray⟩ : Str).length ≤ 8 := by
      show (List.toArray _).size ≤ 8
      rw [List.size_toArray, List.length_replicate]
      omega
    refine q_asg ev_c fun H1 e1 => ?_
    refine q_asg (v := .int (1 + c % 8)) (ev_op ev_c (ev_op (ev_var rfl) ev_c (rv_I (by decide))) rv_I0) fun H2 e2 => ?_
    refine q_asg (v := .str ⟨(List.replicate (1 + c % 8).toNat (97 + (c / 8 % 26).toNat)).toArray⟩) (ev_op (ev_op (ev_var rfl) (ev_op (ev_op (ev_var rfl) ev_c (rv_I ⟨by decide, by decide⟩)) ev_c (rv_I (by decide))) (rv_ixS (w := letters) (by decide) (letter_at (by omega) (by omega)))) (ev_var rfl)
      fun H3 _ _ q => ⟨_, _, rfl, rfl, hz.1, by omega, q H3 (Ex.refl H3)⟩) fun H3 e3 => ?_
    refine q_asg (v := .int (c / 208 % (1 + c % 8))) (ev_op (ev_op (ev_var rfl) ev_c (rv_I ⟨by decide, by decide⟩)) (ev_var rfl) (rv_I (by omega))) fun H4 e4 => ?_
    refine q_asgL (el_lst ea_nil (Nat.zero_le _)) fun L H5 nL e5 hL => ?_
    have e15 := (((e1.trans e2).trans e3).trans e4).trans e5
    have fL : H L = none := fresh_back (((e1.trans e2).trans e3).trans e4) nL
    refine q_forR1 (n := 6) (ea_cons ev_c ea_nil) ⟨by decide, by decide⟩ (fun i σ H' => ∃ y6 y7, σ = [some (.int c), some (.str letters), some (.int (1 + c % 8)), some (.str ⟨(List.replicate (1 + c % 8).toNat (97 + (c / 8 % 26).toNat)).toArray⟩), some (.int (c / 208 % (1 + c % 8))), some (.ref L), y6, y7] ∧
        Ex H H' ∧ H' L = some (.lst (((lampsOf c).take i).map V.str))) (fun H6 e6 => ⟨none, none, rfl, e15.trans e6, e6 _ _ hL⟩) (fun i σ H' hi => ?_) (fun σ H' => ?_)
    · rintro ⟨y6, y7, rfl, e, hl⟩
      have hi6 : i < 6 := by omega
      refine q_asg (v := .str ⟨#[97 + ((c / 1664 + 5 * (i : Int)) % 26).toNat]⟩) (ev_op (ev_var rfl) (ev_op (ev_op (ev_op (ev_var rfl) ev_c (rv_I ⟨by decide, by decide⟩)) (ev_op ev_c (ev_var rfl) (rv_I (.inl ⟨by decide, by decide⟩))) rv_I0) ev_c (rv_I (by decide))) (rv_ixS (w := letters) (by decide) (letter_at (by omega) (by omega)))) fun H6 e6 => ?_
      have c1 := cutS_length ⟨(List.replicate (1 + c % 8).toNat (97 + (c / 8 % 26).toNat)).toArray⟩ none (some (c / 208 % (1 + c % 8)))
      have c2 := cutS_length ⟨(List.replicate (1 + c % 8).toNat (97 + (c / 8 % 26).toNat)).toArray⟩ (some (c / 208 % (1 + c % 8) + 1)) none
      have ap := TL.tl_append (cutS ⟨(List.replicate (1 + c % 8).toNat (97 + (c / 8 % 26).toNat)).toArray⟩ none (some (c / 208 % (1 + c % 8)))) ⟨#[97 + ((c / 1664 + 5 * (i : Int)) % 26).toNat]⟩
      have ap2 := congrArg List.length ap
      rw [List.length_append, Array.length_toList, Array.length_toList] at ap2
      have l1 : (⟨#[97 + ((c / 1664 + 5 * (i : Int)) % 26).toNat]⟩ : Str).length = 1 := rfl
      have l2 : (TL.tl (⟨#[97 + ((c / 1664 + 5 * (i : Int)) % 26).toNat]⟩ : Str)).length = 1 := rfl
      rw [l2] at ap2
      have ap3 : (cutS ⟨(List.replicate (1 + c % 8).toNat (97 + (c / 8 % 26).toNat)).toArray⟩ none (some (c / 208 % (1 + c % 8))) ++ ⟨#[97 + ((c / 1664 + 5 * (i : Int)) % 26).toNat]⟩ : Str).length = (cutS ⟨(List.replicate (1 + c % 8).toNat (97 + (c / 8 % 26).toNat)).toArray⟩ none (some (c / 208 % (1 + c % 8)))).length + 1 := ap2
      refine s_app (v := .str (lampS c i)) (e6 _ _ hl) (ev_var rfl) (ev_is (ev_op (ev_op (ev_slS (ev_var rfl) eo_none (eo_some (ev_var rfl)) (Nat.le_trans blen (by decide))) (ev_var rfl) (rv_addS (by omega))) (ev_slS (ev_var rfl) (eo_some (ev_op (ev_var rfl) ev_c rv_I0)) eo_none (Nat.le_trans blen (by decide))) (rv_addS (by omega))) (congrArg V.str (lamp_cut c i)))
        (by rw [List.length_map, List.length_take]; exact Nat.lt_of_le_of_lt (Nat.min_le_right _ _) (by show 6 < 100000; decide)) fun H7 e7 => ⟨_, _, rfl, Ex.mut ((e.trans e6).trans e7) fL, ?_⟩
      have hk : (lampsOf c)[i]? = some (lampS c i) := by
        unfold lampsOf
        rw [List.getElem?_map, List.getElem?_range hi6]
        rfl
      rw [upd_same, List.take_add_one, hk, List.map_append]
      rfl
    · rintro ⟨y6, y7, rfl, e, hl⟩
      have hl : H' L = some (.lst ((lampsOf c).map V.str)) := hl
      exact ⟨.ref L, rfl, q L H' fL e hl⟩
end
end LW

namespace LW
open PySem PySem.Spec PyProof.Rows L2 Evl HB HS MB HW PI MC
section
variable {P : Program} {w : World} {K : PySem.W.Frag} {mg : Str → Option Value} {base : Heap}
/-! ### _law_look -/
def RLook (K : PySem.W.Frag) (H : Hp) (vs : List V) (kvs : List (Key × V)) : Prop := ∃ (m a : Addr) (R : List CRow) (n : Int) (ls : List Str), vs = [.ref m, .int n, .ref a] ∧ MAt H m R ∧ SqL K H a (ls.map V.str) ∧ ls.length < 64 ∧ kvs = wkv (lookOf (bk R) n ls)
theorem look_len (B : Bk) (n : Int) (ls : List Str) (acc : List (Str × Int)) : (ls.foldl (fun acc l => if 0 < lvl B n l then wput acc l (lvl B n l) else acc) acc).length ≤ acc.length + ls.length := by
  induction ls generalizing acc with
  | nil => exact Nat.le_refl _
  | cons l r ih =>
    rw [List.foldl_cons]
    refine Nat.le_trans (ih _) ?_
    rw [List.length_cons]
    split
    · have := wput_len acc l (lvl B n l)
      omega
    · omega
theorem ok_law_look (T : Top K mg) : Dn P w K mg base "_law_look" 2 ["_law_model", "_law_number", "_law_lamps_here"] (spD (RLook K)) := by
  refine T.d__law_look.ok sc_law_look (fun vs H Q E h => ?_) (fun f cdv A outer s H vs Q E hr h => ?_)
  · obtain ⟨z, ⟨m, a, R, n, ls, rfl, _⟩, _⟩ := h
    rfl
  · obtain ⟨z, ⟨m, a, R, n, ls, rfl, hM, hS, h64, rfl⟩, q⟩ := h
    have hu := hu_of hr
    refine ⟨_, (pss_cons (ps_set (i := 3) sc_law_look.nd rfl (.inl rfl) pe_dnewK)
        (pss_cons (ps_for PassesOwn.never rfl (pi_list (pe_callB cr_sortedS (by rfl) T.z_sorted (by decide +kernel) (pa_cons (pv 2) pa_nil))) (pg_name (i := 4) sc_law_look.nd rfl (.inl rfl))
        (pss_cons (ps_set (i := 5) sc_law_look.nd rfl (.inl rfl) (pe_dn (ok_law_level T) (hr.mono (by decide)) (by rfl) (pa_cons (pv 0) (pa_cons (pv 1) (pa_cons (pv 4) pa_nil)))))
        (pss_one (ps_if (pt_cmpR op_gt (pv 5) pe_int (nomark _))
        (pss_one (ps_dput hu (pv 3) (pv 4) (pv 5) rfl))
        pss_nil))))
        (pss_one (ps_ret (pv 3))))), ?_⟩
    refine q_asgD ed_new fun d H1 nd e1 hd => ?_
    have lS : (sortS ls).length = ls.length := (sortS_perm ls).length_eq
    refine q_forNLn (el_sortS (ev_var rfl) (ex_l e1 hS) h64) (fun p i σ H' => ∃ y4 y5, σ = [some (.ref m), some (.int n), some (.ref a), some (.ref d), y4, y5] ∧ Ex H H' ∧ H' p = some (.lst ((sortS ls).map V.str)) ∧ p ≠ d ∧
        H' d = some (.dK (wkv (((sortS ls).take i).foldl (fun acc l => if 0 < lvl (bk R) n l then wput acc l (lvl (bk R) n l) else acc) []))))
      (fun p H2 np e2 h2 => ⟨none, none, rfl, e1.trans e2, h2, (fun z => by rw [z, hd] at np; cases np), e2 _ _ hd⟩) (fun p i σ H' _ ⟨_, _, _, _, h, _⟩ => .of h) (fun p i x σ H' hx => ?_) (fun p σ H' => ?_)
    · rintro ⟨y4, y5, rfl, e, hp, npd, hd2⟩
      rw [List.getElem?_map] at hx
      obtain ⟨l, hl, rfl⟩ := Option.map_eq_some_iff.mp hx
      refine q_asg (v := .int (lvl (bk R) n l)) (ev_callR (ea_cons (ev_var rfl) (ea_cons (ev_var rfl) (ea_cons (ev_var rfl) ea_nil))) fun H2 e2 => ⟨m, R, n, l, rfl, hM.ex (e.trans e2), rfl⟩) fun H2 e2 => ?_
      have st : ((sortS ls).take (i + 1)).foldl (fun acc l => if 0 < lvl (bk R) n l then wput acc l (lvl (bk R) n l) else acc) [] =
          (fun acc l => if 0 < lvl (bk R) n l then wput acc l (lvl (bk R) n l) else acc) (((sortS ls).take i).foldl (fun acc l => if 0 < lvl (bk R) n l then wput acc l (lvl (bk R) n l) else acc) []) l := by
        rw [List.take_add_one, hl, List.foldl_append]
        rfl
      have sz := look_len (bk R) n ((sortS ls).take i) []
      have sz2 : ((sortS ls).take i).length ≤ ls.length := by rw [List.length_take, lS]; exact Nat.min_le_right _ _
      have sz3 : ([] : List (Str × Int)).length = 0 := rfl
      refine s_when (et_test (ev_op (ev_var rfl) ev_c rv_I0)) (fun hb H3 e3 => ?_) (fun hb H3 e3 => ?_)
      · have hb := of_decide_eq_true hb
        refine s_dput (k := .inr l) (v := .int (lvl (bk R) n l)) (ev_var rfl) (ev_var rfl) (ev_var rfl) (e3 _ _ (e2 _ _ hd2)) (by rw [wkv_len]; omega) fun H4 e4 => ?_
        refine ⟨_, _, rfl, Ex.mut (((e.trans e2).trans e3).trans e4) nd, ?_, npd, ?_⟩
        · rw [upd_ne npd]
          exact e4 _ _ (e3 _ _ (e2 _ _ hp))
        · rw [upd_same, st, put_wkv]
          show some (HO.dK _) = some (HO.dK (wkv (if 0 < lvl (bk R) n l then _ else _)))
          rw [if_pos hb]
      · have hb := of_decide_eq_false hb
        refine ⟨_, _, rfl, (e.trans e2).trans e3, e3 _ _ (e2 _ _ hp), npd, ?_⟩
        rw [st]
        show H3 d = some (HO.dK (wkv (if 0 < lvl (bk R) n l then _ else _)))
        rw [if_neg hb]
        exact e3 _ _ (e2 _ _ hd2)
    · rintro ⟨y4, y5, rfl, e, hp, npd, hd2⟩
      rw [List.length_map, List.take_length] at hd2
      exact ⟨.ref d, rfl, q d H' nd e hd2⟩
/-! ### _law_behind -/
def optV : Option Int → V
  | none => .non
  | some n => .int n
def RBehind (H : Hp) (vs : List V) (z : V) : Prop := ∃ (m : Addr) (R : List CRow) (n : Int), vs = [.ref m, .int n] ∧ MAt H m R ∧ R.length ≤ 1000 ∧ z = optV (behindOf (bk R) n)
theorem ints_shaped (ns : List Int) : SeqAt.shaped (.list (ns.map PyData.int)) = true := shaped_list _ _ (fun a _ => by rw [PyData.canLay0]) fun a _ => by
  rw [PyData.depth]
  exact Nat.zero_le _
theorem eqv_nil {α : Type} (g : α → PyData) (xs : List α) : PyData.eqv (.list (xs.map g)) (.list ([] : List PyData)) = decide (xs = []) := by
  cases xs with
  | nil => rw [List.map_nil, PyData.eqv, PyData.eqvAll]; rfl
  | cons a r => rw [List.map_cons, PyData.eqv, PyData.eqvAll]; rfl
theorem ok_law_behind (T : Top K mg) : Dn P w K mg base "_law_behind" 1 ["_law_model", "_law_number"] (spR RBehind) := by
  refine T.d__law_behind.ok sc_law_behind (fun vs H Q E h => ?_) (fun f cdv A outer s H vs Q E hr h => ?_)
  · obtain ⟨z, ⟨m, R, n, rfl, _⟩, _⟩ := h
    rfl
  · obtain ⟨z, ⟨m, R, n, rfl, hM, hlen, rfl⟩, q⟩ := h
    have hu64 := hr.units
    refine ⟨_, (pss_cons (ps_setLc (i := 2) (own := [("_law_one", 3)]) (g := gName 3) (by rfl) sc_law_behind.nd rfl rfl (sw_true rfl rfl rfl (by decide +kernel)) (pi_list (pe_callB (cr_sortD rfl) (by rfl) T.z_sorted (by decide +kernel) (pa_cons (pv 0) pa_nil))) (blkOk_by (own := [("_law_one", 3)]) (N := ns_law_behind) (sc := defScope s_law_behind) (by decide +kernel)) (fun _ _ _ _ _ => (pg_name (i := 3) sc_law_behind.nd rfl (.inl rfl))) (fun _ _ _ _ _ => (pts_one (pt_cmpR op_gt (pv 3) (pv 1) (nomark _)))) (fun _ _ _ _ _ => (pv 3)))
        (pss_one (ps_ret (pe_ifExp (pt_cmpR (op_neD hu64) (pv 2) (pe_lst pa_nil) (nomark _)) (pe_ix (r := rIxL K) ix_list (pv 2) pe_int (fun _ _ => rfl)) pe_non)))), ?_⟩
    obtain ⟨ks, eks⟩ : ∃ ks, ks = ((asc (bk R)).map (·.n)).filter fun k => decide (n < k) := ⟨_, rfl⟩
    have la : (asc (bk R)).length = R.length := by rw [(asc_perm (bk R)).length_eq]; exact List.length_map _
    refine q_asgL (xs := ks.map V.int) ?_ fun p H1 np e1 hp => ?_
    · have e0 : ks.map V.int = given ((asc (bk R)).map fun c => V.int c.n).length (fun i => decide (n < ((asc (bk R)).map (·.n)).getD i 0)) (fun i => V.int (((asc (bk R)).map (·.n)).getD i 0)) := by
        have := given_of (0 : Int) ((asc (bk R)).map (·.n)) (fun k => decide (n < k)) V.int
        rw [List.length_map] at this ⊢
        rw [this, eks]
      rw [e0]
      have at_ : ∀ (i : Nat) (x : V), ((asc (bk R)).map fun c => V.int c.n)[i]? = some x → x = V.int (((asc (bk R)).map (·.n)).getD i 0) := fun i x hx => by
        rw [List.getElem?_map] at hx
        obtain ⟨c, hc, rfl⟩ := Option.map_eq_some_iff.mp hx
        rw [getD_of 0 (by rw [List.getElem?_map, hc]; rfl)]
      refine el_lcNL _ _ (el_sortD (ev_var rfl) hM) (by rw [List.length_map]; omega) (fun _ => rfl) (fun i x H1 e1 hx => ?_) (fun i x H1 e1 hx _ => ?_)
      · rw [at_ i x hx]
        exact et_test (ev_op (ev_var rfl) (ev_var rfl) rv_I0)
      · rw [at_ i x hx]
        exact ev_var rfl
    · have hq : behindOf (bk R) n = ks.head? := by rw [eks]; rfl
      rw [hq] at q
      have ne : EvT (tTest (tOp (rNeD K) (tVar 2) (tLst tNil))) [some (.ref m), some (.int n), some (.ref p), none] H1 (!decide (ks = [])) := by
        rw [← eqv_nil PyData.int ks]
        exact et_test (ev_opL (ev_var rfl) (el_lst ea_nil (Nat.zero_le _)) fun b H4 hb e4 => rv_neD (fun H5 e5 => dp_lst (.of (e5 _ _ (e4 _ _ hp))) fun a => .int a) (fun H5 e5 => .lst (.of (e5 _ _ hb)) .nil) (ints_shaped _) (by decide +kernel))
      refine s_ret (v := optV ks.head?) (ev_if ne (fun hb => ?_) fun hb => ?_) fun H2 e2 => q.go (e1.trans e2)
      · cases ks with
        | nil => exact absurd hb (by decide)
        | cons k r => exact ev_ixK (ev_var rfl) ev_c (.of hp) (atI_nat (j := 0) rfl)
      · cases ks with
        | nil => exact ev_c
        | cons k r => exact absurd hb (by simp)
/-! ### _law_hold -/
def spHold : Sp := fun vs H Q _ => ∃ (m : Addr) (R : List CRow) (o : Option Int) (l : Str) (due : Int), vs = [.ref m, optV o, .str l, .int due] ∧ MAt H m R ∧ H m = some (.dK (mkv R)) ∧ (∀ n, o = some n → ∃ r ∈ R, r.c.n = n) ∧ (∀ r ∈ R, r.c.ws.length ≤ 1000) ∧
  ∀ (H' : Hp) (R' : List CRow), MAt H' m R' → H' m = some (.dK (mkv R')) → Mv (MF m R) H (MF m R') H' → bk R' = holdB (bk R) o l due → Q .non H'
theorem ok_law_hold (T : Top K mg) : Dn P w K mg base "_law_hold" 2 ["_law_model", "_law_number", "_law_lamp", "_law_due"] spHold := by
  refine T.d__law_hold.ok sc_law_hold (fun vs H Q E h => ?_) (fun f cdv A outer s H vs Q E hr h => ?_)
  · obtain ⟨m, R, o, l, due, rfl, _⟩ := h
    rfl
  · obtain ⟨m, R, o, l, due, rfl, hM, hD, ho, hz, q⟩ := h
    have hu := hu_of hr
    refine ⟨_, (pss_one (ps_if (PW.pt (pw_and (pt_cmpR op_notN (pv 1) pe_non (nomark _)) (pw_and1 (pt_cmpR op_ne (pe_dn (ok_law_level T) (hr.mono (by decide)) (by rfl) (pa_cons (pv 0) (pa_cons (pv 1) (pa_cons (pv 2) pa_nil)))) (pv 3) (nomark _)))))
        (pss_one (ps_dput hu (pe_ix (r := rIxL K) ix_list (pe_dget hu (pv 0) (pv 1) (fun _ _ => rfl)) pe_int (fun _ _ => rfl)) (pv 2) (pv 3) rfl))
        pss_nil)), ?_⟩
    have isN : ∀ o : Option Int, Ev (tOp (fun x y H Q => y = .non ∧ Q (.bl (!decide (x = .non))) H) (tVar 1) (tC .non)) [some (.ref m), some (optV o), some (.str l), some (.int due)] H (.bl o.isSome) := fun o =>
      ev_is (ev_op (ev_var rfl) ev_c fun H1 _ _ q => ⟨rfl, q H1 (Ex.refl H1)⟩) (by cases o <;> rfl)
    cases o with
    | none =>
      refine s_when (b := false && true) (et_and (et_test (isN none)) fun h => absurd h (by decide)) (fun hb => absurd hb (by decide)) fun _ H1 e1 => ?_
      exact q H1 R (hM.ex e1) (e1 _ _ hD) (Mv.of_ex e1) rfl
    | some n =>
      obtain ⟨r, hr, rfl⟩ := ho n rfl
      refine s_when (b := true && !decide (V.int (lvl (bk R) r.c.n l) = V.int due)) (et_and (et_test (isN (some r.c.n))) fun _ => et_test (ev_op (ev_callR (ea_cons (ev_var rfl) (ea_cons (ev_var rfl) (ea_cons (ev_var rfl) ea_nil))) fun H2 e2 => ⟨m, R, r.c.n, l, rfl, hM.ex e2, rfl⟩) (ev_var rfl) (rv_ne rfl))) (fun hb H1 e1 => ?_) fun hb H1 e1 => ?_
      · have hne : ¬ lvl (bk R) r.c.n l = due := fun z => by rw [z, decide_eq_true rfl] at hb; exact absurd hb (by decide)
        have hM1 := hM.ex e1
        refine s_dput (k := .inr l) (v := .int due) (ev_var rfl) (ev_words (K := K) hM1 hr (ev_var (i := 0) rfl) (ev_var (i := 1) rfl) ev_c) (ev_var rfl) (hM1.row r hr).2 (by rw [wkv_len]; have := hz r hr; omega) fun H2 e2 => ?_
        rw [put_wkv]
        refine q _ (setR R r.c.n l due) ((hM1.ex e2).setw hr l due) (by
          rw [upd_ne (Ne.symm (hM.mw r hr)), show mkv (setR R r.c.n l due) = mkv R from setR_map (fun r => ((.inl r.c.n : Key), V.ref r.la)) (fun _ _ _ => rfl) R _ l due]
          exact e2 _ _ (e1 _ _ hD)) ((Mv.setw hr (e1.trans e2) l due _)) ?_
        rw [bk_setR]
        show _ = if _ then _ else _
        rw [if_neg hne]
      · have he : lvl (bk R) r.c.n l = due := by
          have hb : (!decide (V.int (lvl (bk R) r.c.n l) = V.int due)) = false := hb
          rw [Bool.not_eq_false', decide_eq_true_iff] at hb
          exact V.int.inj hb
        refine q H1 R (hM.ex e1) (e1 _ _ hD) (Mv.of_ex e1) ?_
        show _ = if _ then _ else _
        rw [if_pos he]
end
end LW

namespace LW
open PySem PySem.Spec PyProof.Rows L2 Evl HB HS MB HW HI PI MC
section
variable {P : Program} {w : World} {K : PySem.W.Frag} {mg : Str → Option Value} {base : Heap}
/-! ### _law_whole -/
def wholeB (x : V) : Bool := match x with
  | .int _ => true
  | _ => false
def tyInt (ty : String) : Bool := ty == "int" || ty == "bool"
theorem kit_int {H : Hp} {x : V} {ty : String} (h : TyB K H x ty) : kitB ty "int" = some (tyInt ty) := by cases h <;> decide +kernel
theorem kit_bool {H : Hp} {x : V} {ty : String} (h : TyB K H x ty) : kitB ty "bool" = some (ty == "bool") := by cases h <;> decide +kernel
theorem whole_ty {H : Hp} {x : V} {ty : String} (h : TyB K H x ty) : (tyInt ty && !(ty == "bool")) = wholeB x := by cases h <;> (simp only [wholeB]; decide +kernel)
def RWhole (K : PySem.W.Frag) (H : Hp) (vs : List V) (z : V) : Prop := ∃ (x : V) (ty : String), vs = [x] ∧ TyB K H x ty ∧ z = .bl (wholeB x)
theorem ok_law_whole (T : Top K mg) : Dn P w K mg base "_law_whole" 1 ["_law_found"] (spR (RWhole K)) := by
  refine T.d__law_whole.ok sc_law_whole (fun vs H Q E h => ?_) (fun f cdv A outer s H vs Q E hr h => ?_)
  · obtain ⟨z, ⟨x, ty, rfl, _⟩, _⟩ := h
    rfl
  · obtain ⟨z, ⟨x, ty, rfl, ht, rfl⟩, q⟩ := h
    refine ⟨_, (pss_one (ps_ret (pe_and (pe_callB (r := rIsi K) call_isi (by rfl) T.z_isinstance (by decide +kernel) (pa_cons (pv 0) (pa_cons (pe_ty (T := "int") T.z_int (by rfl) (by decide +kernel)) pa_nil))) (pe_one (pe_not (pe_callB (r := rIsi K) call_isi (by rfl) T.z_isinstance (by decide +kernel) (pa_cons (pv 0) (pa_cons (pe_ty (T := "bool") T.z_bool (by rfl) (by decide +kernel)) pa_nil)))))))), ?_⟩
    rw [← whole_ty ht] at q
    exact s_ret (ev_andV (ev_isi (ev_var rfl) ev_c ht (kit_int ht)) fun _ => ev_notV (ev_isi (ev_var rfl) ev_c ht (kit_bool ht))) fun H1 e1 => q.go e1
/-! ### _law_same -/
def RSame (H : Hp) (vs : List V) (z : V) : Prop := ∃ (a b : Addr) (ws : List (Str × Int)), vs = [.ref a, .ref b] ∧ H a = some (.dK (wkv ws)) ∧ H b = some (.dK (wkv ws)) ∧ (∀ w ∈ ws, PyData.strOk w.1 = true) ∧ ws.length ≤ 1000 ∧ z = .bl true
theorem given_bl (n : Nat) : given n (fun _ => true) (fun _ => V.bl true) = (List.replicate n true).map V.bl := by
  rw [given_all, List.map_replicate]
  refine List.ext_getElem (by rw [List.length_map, List.length_range, List.length_replicate]) fun i h1 h2 => ?_
  rw [List.getElem_map, List.getElem_replicate]
theorem ok_law_same (T : Top K mg) : Dn P w K mg base "_law_same" 2 ["_law_found", "_law_due"] (spR RSame) := by
  refine T.d__law_same.ok sc_law_same (fun vs H Q E h => ?_) (fun f cdv A outer s H vs Q E hr h => ?_)
  · obtain ⟨z, ⟨a, b, ws, rfl, _⟩, _⟩ := h
    rfl
  · obtain ⟨z, ⟨a, b, ws, rfl, ha, hb, ho, hz, rfl⟩, q⟩ := h
    have hu64 := hr.units
    refine ⟨_, (pss_cons (ps_if (PW.pt (pw_or (pt_not (pt_val (pe_callB (r := rIsi K) call_isi (by rfl) T.z_isinstance (by decide +kernel) (pa_cons (pv 0) (pa_cons (pe_ty (T := "dict") T.z_dict (by rfl) (by decide +kernel)) pa_nil))))) (pw_or1 (pt_cmpR (op_neD hu64) (LiI.pe_listItems rfl (pv 0) (by rfl) T.z_list (by rfl)) (LiI.pe_listItems rfl (pv 1) (by rfl) T.z_list (by rfl)) (nomark _)))))
        (pss_one (ps_ret pe_bl))
        pss_nil)
        (pss_one (ps_ret (pe_callB (cr_all rfl) (by rfl) T.z_all (by decide +kernel) (pa_cons (pe_lock (pe_lc (own := [("_law_one", 2)]) (g := gName 2) (by rfl) sc_law_same.nd (pi_values (pv 0)) (blkOk_by (own := [("_law_one", 2)]) (N := ns_law_same) (sc := defScope s_law_same) (by decide +kernel)) (fun _ _ _ _ _ => (pg_name (i := 2) sc_law_same.nd rfl (.inl rfl))) (fun _ _ _ _ _ => pts_nil) (fun _ _ _ _ _ => (pe_dn (ok_law_whole T) (hr.mono (by decide)) (by rfl) (pa_cons (pv 2) pa_nil))))) pa_nil))))), ?_⟩
    have ht : TyB K H (.ref a) "dict" := .dK ha
    refine q_when (b := !true || false) (et_or (et_not (et_test (ev_isi (ev_var rfl) ev_c ht (by decide +kernel)))) fun _ => et_test (ev_neI0 (ev_items (ev_var rfl) ha) (ev_items (ev_var rfl) hb) ho)) (fun z => absurd z (by decide)) fun _ H1 e1 => ?_
    have e : (List.replicate ws.length true).all id = true := by simp
    rw [← e] at q
    refine s_ret (ev_allN (K := K) (el_lock (d := a) (u := .dK (wkv ws)) (e1 _ _ ha) (by simp [Mut]) fun H2 o e2 => ?_)) fun H2 e2 => q.go (e1.trans e2)
    rw [← given_bl, ← wkv_len]
    refine el_lcVals _ _ (ev_var rfl) upd_same (by rw [wkv_len]; omega) (fun _ => rfl) (fun i k x H3 e3 hx => et_yes) fun i k x H3 e3 hx _ => ?_
    have hx : ((ws.map fun p : Str × Int => ((.inr p.1, .int p.2) : Key × V)))[i]? = some (k, x) := hx
    rw [List.getElem?_map] at hx
    obtain ⟨p, hp, ep⟩ := Option.map_eq_some_iff.mp hx
    cases ep
    exact ev_callR (ea_cons (ev_var rfl) ea_nil) fun H4 e4 => ⟨.int p.2, "int", rfl, .int _, rfl⟩
end
end LW

namespace LW
open PySem PySem.Spec PyProof.Rows L2 Evl HB HS MB HW HM HI PI MC HJ RP SQ
section
variable {P : Program} {w : World} {K : PySem.W.Frag} {mg : Str → Option Value} {base : Heap} {C : Addr} {At : AtT}
/-! ### _law_cue_right -/
def RCue (At : AtT) (H : Hp) (vs : List V) (z : V) : Prop := ∃ (p m : Addr) (R : List CRow) (r : CRow) (ls : List Str) (B : Bk) (fp : Addr → Prop), vs = [.ref p, .ref m, .int r.c.n] ∧ MAt H m R ∧ At H p ls B fp ∧ LikeB B (bk R) ∧ Good ls (bk R) ∧ r ∈ R ∧ z = .bl true
theorem ok_law_cue_right (T : Top K mg) (L : Pl P w K mg base C At) : Dn P w K mg base "_law_cue_right" 22 ["_law_play", "_law_model", "_law_number"] (spR (RCue At)) := by
  refine T.d__law_cue_right.ok sc_law_cue_right (fun vs H Q E h => ?_) (fun f cdv A outer s H vs Q E hr h => ?_)
  · obtain ⟨z, ⟨p, m, R, r, ls, B, fp, rfl, _⟩, _⟩ := h
    rfl
  · obtain ⟨z, ⟨p, m, R, r, ls, B, fp, rfl, hM, hA, lk, gd, hr0, rfl⟩, q⟩ := h
    have hu := hu_of hr
    have hu64 := hr.units
    refine ⟨_, (pss_cons (ps_set (i := 3) sc_law_cue_right.nd rfl (.inl rfl) (PI.pe_dm L.cue L.cls (hr.mono (by decide)) (pv 0) (pa_cons (pv 2) pa_nil)))
        (pss_cons (ps_asg (pe_dget hu (pv 1) (pv 2) (fun _ _ => rfl)) (pg_unl rfl (pgs_cons (pg_name (i := 4) sc_law_cue_right.nd rfl (.inl rfl)) (pgs_cons (pg_name (i := 5) sc_law_cue_right.nd rfl (.inl rfl)) (pgs_cons (pg_name (i := 6) sc_law_cue_right.nd rfl (.inl rfl)) (pgs_cons (pg_name (i := 7) sc_law_cue_right.nd rfl (.inr rfl)) pgs_nil))))))
        (pss_cons (ps_if (PW.pt (pw_or (pt_not (pt_val (pe_callB (r := rIsi K) call_isi (by rfl) T.z_isinstance (by decide +kernel) (pa_cons (pv 3) (pa_cons (pe_ty (T := "tuple") T.z_tuple (by rfl) (by decide +kernel)) pa_nil))))) (pw_or (pt_cmpR op_ne (pe_callB call_len_seq (by rfl) T.z_len PySem.boot_len (pa_cons (pv 3) pa_nil)) pe_int (nomark _)) (pw_or1 (pt_cmpR (op_neD hu64) (pe_slice sl_tup (pv 3) po_none (po_some pe_int)) (pe_tup (pa_cons (pv 4) (pa_cons (pv 5) (pa_cons (pv 6) pa_nil)))) (nomark _))))))
        (pss_one (ps_ret pe_bl))
        pss_nil)
        (pss_cons (ps_if (PW.pt (pw_or (pt_not (pt_val (pe_callB (r := rIsi K) call_isi (by rfl) T.z_isinstance (by decide +kernel) (pa_cons (pe_ix (r := rIxT K) ix_tup (pv 3) pe_int (fun _ _ => rfl)) (pa_cons (pe_ty (T := "bool") T.z_bool (by rfl) (by decide +kernel)) pa_nil))))) (pw_or (pt_not (pt_val (pe_dn (ok_law_whole T) (hr.mono (by decide)) (by rfl) (pa_cons (pe_ix (r := rIxT K) ix_tup (pv 3) pe_int (fun _ _ => rfl)) pa_nil)))) (pw_or1 (pt_not (pt_val (pe_dn (ok_law_whole T) (hr.mono (by decide)) (by rfl) (pa_cons (pe_ix (r := rIxT K) ix_tup (pv 3) pe_int (fun _ _ => rfl)) pa_nil))))))))
        (pss_one (ps_ret pe_bl))
        pss_nil)
        (pss_one (ps_ret (pe_dn (ok_law_same T) (hr.mono (by decide)) (by rfl) (pa_cons (pe_ix (r := rIxT K) ix_tup (pv 3) pe_int (fun _ _ => rfl)) (pa_cons (pe_callTy (call_dictP rfl) (by rfl) T.z_dict (by decide +kernel) (pa_cons (pe_lc (own := [("_law_lamp", 8)]) (g := gName 8) (by rfl) sc_law_cue_right.nd (pi_list (pe_callB (call_sortedD rfl) (by rfl) T.z_sorted (by decide +kernel) (pa_cons (pv 7) pa_nil))) (blkOk_by (own := [("_law_lamp", 8)]) (N := ns_law_cue_right) (sc := defScope s_law_cue_right) (by decide +kernel)) (fun _ _ _ _ _ => (pg_name (i := 8) sc_law_cue_right.nd rfl (.inl rfl))) (fun _ _ _ _ _ => pts_nil) (fun _ _ _ _ _ => (pe_tup (pa_cons (pv 8) (pa_cons (pe_dget hu (pv 7) (pv 8) (fun _ _ => rfl)) pa_nil))))) pa_nil)) pa_nil))))))))), ?_⟩
    refine t_m L hA (m := "cue") (by decide) (ev_var rfl) (ea_cons (ev_var rfl) ea_nil) fun H1 e1 => ?_
    have hc : r.c ∈ bk R := List.mem_map.mpr ⟨r, hr0, rfl⟩
    have gc := gd.cue _ hc
    obtain ⟨c', hc', sc⟩ := LikeB.cue lk gd.nd hc
    refine ⟨p, ls, B, fp, r.c.n, c', sortW r.c.ws, rfl, L.ex hA e1, hc', ⟨(words_is gc.nd).up, fun l v => by rw [(words_is gc.nd).mem, sc.ws]⟩, fun q0 d H2 nq nd ne e2 hq hd => ?_⟩
    rw [sc.up, sc.down, sc.fr] at hq
    have hM2 := hM.ex (e1.trans e2)
    obtain ⟨hl, hw⟩ := hM2.row r hr0
    refine ev_row hM2 hr0 (ev_var rfl) (ev_var rfl) H2 (Ex.refl _) _ fun H3 e3 => ⟨r.la, r.items, rfl, .of (e3 _ _ hl), rfl, _, _, rfl, _, _, rfl, _, _, rfl, _, _, rfl, rfl, ?_⟩
    have hq3 : SqT K H3 q0 [.int r.c.up, .int r.c.down, .bl r.c.fr, .ref d] := .of (e3 _ _ hq)
    have sh3 : SeqAt.shaped (.tuple [.int r.c.up, .int r.c.down, .bool r.c.fr]) = true := by
      unfold SeqAt.shaped
      rw [PyData.canLay0, PyData.canLayAll0, PyData.canLayAll0, PyData.canLayAll0, PyData.canLayAll0, PyData.canLay0, PyData.canLay0, PyData.canLay0, PyData.depth, PyData.depthAll, PyData.depthAll, PyData.depthAll, PyData.depthAll, PyData.depth, PyData.depth, PyData.depth]
      decide
    have c3 := (Bool.and_eq_true_iff.mp (show (_ && _) = true from sh3)).1
    refine q_when (b := false) (et_is (a := !true || (!decide ((V.int ((4 : Nat) : Int)) = V.int 4) || !PyData.eqv (.tuple [.int r.c.up, .int r.c.down, .bool r.c.fr]) (.tuple [.int r.c.up, .int r.c.down, .bool r.c.fr])))
      (et_or (et_not (et_test (ev_isi (T := "tuple") (ev_var rfl) ev_c (.tup hq3) (by decide +kernel)))) fun _ => et_or (et_test (ev_op (ev_lenT (ev_var rfl) hq3) ev_c (rv_ne rfl))) fun _ =>
      et_test (ev_opUU (eu_sl (lo := none) (hi := some 3) (ev_var rfl) eo_none (eo_some ev_c) hq3 (fun z => absurd z.2 (by show ¬ ((3 : Nat) = 4); decide))) (eu_tup (ea_cons (ev_var rfl) (ea_cons (ev_var rfl) (ea_cons (ev_var rfl) ea_nil))) (by show 3 ≤ 100000; decide)) fun a b H4 ha hb e4 => rv_neD (fun H5 e5 => .tup (.of (e5 _ _ ha)) (.cons (.int _) (.cons (.int _) (.cons (.bl _) .nil)))) (fun H5 e5 => .tup (.of (e5 _ _ hb)) (.cons (.int _) (.cons (.int _) (.cons (.bl _) .nil)))) sh3 sh3)) (by rw [SeqAt.eqv_refl _ c3]; rfl)) (fun hb => absurd hb (by decide)) fun _ H4 e4 => ?_
    have hq4 : SqT K H4 q0 [.int r.c.up, .int r.c.down, .bl r.c.fr, .ref d] := ex_t e4 hq3
    refine q_when (b := false) (et_is (a := !true || (!true || !true)) (et_or (et_not (et_test (ev_isi (T := "bool") (ev_ixT (ev_var rfl) ev_c hq4 rfl) ev_c (.bl _) (by decide +kernel)))) fun _ => et_or (et_not (et_test (ev_callR (ea_cons (ev_ixT (ev_var rfl) ev_c hq4 rfl) ea_nil) fun H5 e5 => ⟨.int r.c.up, "int", rfl, .int _, rfl⟩))) fun _ =>
      et_not (et_test (ev_callR (ea_cons (ev_ixT (ev_var rfl) ev_c hq4 rfl) ea_nil) fun H5 e5 => ⟨.int r.c.down, "int", rfl, .int _, rfl⟩))) rfl) (fun hb => absurd hb (by decide)) fun _ H5 e5 => ?_
    have few := words_few gd hc
    have hw5 := e5 _ _ (e4 _ _ (e3 _ _ hw))
    have ws := words_is gc.nd
    refine s_ret (ev_call_xD (kvs := wkv (sortW r.c.ws)) (ev_ixT (ev_var rfl) ev_c (ex_t e5 hq4) rfl) (ed_dict (by
      rw [wkv_sortW]
      refine ep_lcS _ (el_sortW (ev_var rfl) (.inl hw5) few) (by rw [(sortS_perm _).length_eq, List.length_map]; omega) (fun _ => rfl) fun l H6 e6 hl => ?_
      obtain ⟨x, hx, rfl⟩ := List.mem_map.mp ((sortS_perm _).mem_iff.mp hl)
      have hv := wlook_of gc.nd hx
      refine eu_tup (ea_cons (ev_var rfl) (ea_cons (ev_dget (k := .inr x.1) (ev_var rfl) (ev_var rfl) (.inl (e6 _ _ hw5)) ?_) ea_nil)) (by show 2 ≤ 100000; decide)
      rw [val_wkv, hv]
      rfl) (up_nodup ws.up)) fun dd H6 e6 h6 => ⟨d, dd, sortW r.c.ws, rfl, e6 _ _ (e5 _ _ (e4 _ _ (e3 _ _ hd))), h6, fun x hx => ?_, by rw [sortW_len]; omega, rfl⟩) fun H6 e6 => q.go (e1.trans (e2.trans (e3.trans (e4.trans (e5.trans e6)))))
    exact lamp_strOk (gd.ok _ (gd.lam _ hc _ (wlook_mem ((ws.mem x.1 x.2).mp hx))))
end
end LW

namespace LW
open PySem PySem.Spec PyProof.Rows L2 Evl HB HS MB HW HM HI PI MC HJ RP SQ
section
variable {P : Program} {w : World} {K : PySem.W.Frag} {mg : Str → Option Value} {base : Heap} {C : Addr} {At : AtT}
/-! ### _law_stands -/
/-- the lamps asked of: names, all that are told of among them -/
structure Asked (qs : List Str) (B : Bk) : Prop where
  ok : ∀ l ∈ qs, LampOk l
  cov : ∀ c ∈ B, ∀ p ∈ c.ws, p.1 ∈ qs
  few : qs.length < 64
def RStands (K : PySem.W.Frag) (At : AtT) (H : Hp) (vs : List V) (z : V) : Prop := ∃ (p m a : Addr) (R : List CRow) (ls qs : List Str) (B : Bk) (fp : Addr → Prop), vs = [.ref p, .ref m, .ref a] ∧ MAt H m R ∧ H m = some (.dK (mkv R)) ∧ At H p ls B fp ∧ LikeB B (bk R) ∧ Good ls (bk R) ∧ ¬ (fp m ∨ At.tb m) ∧ SqL K H a (qs.map V.str) ∧ Asked qs (bk R) ∧ z = .bl true
theorem ok_law_stands (T : Top K mg) (L : Pl P w K mg base C At) (hL : At.full) : Dn P w K mg base "_law_stands" 23 ["_law_play", "_law_model", "_law_lamps_here"] (spR (RStands K At)) := by
  refine T.d__law_stands.ok sc_law_stands (fun vs H Q E h => ?_) (fun f cdv A outer s H vs Q E hr h => ?_)
  · obtain ⟨z, ⟨p, m, a, R, ls, qs, B, fp, rfl, _⟩, _⟩ := h
    rfl
  · obtain ⟨z, ⟨p, m, a, R, ls, qs, B, fp, rfl, hM, hD, hA, lk, gd, nm, hS, hq, rfl⟩, q⟩ := h
    have hu := hu_of hr
    have hu64 := hr.units
    refine ⟨_, (pss_cons (ps_if (pt_cmpR (op_neD hu64) (PI.pe_dm0 L.numbers L.cls (hr.mono (by decide)) (pv 0)) (pe_callB (cr_sortD rfl) (by rfl) T.z_sorted (by decide +kernel) (pa_cons (pv 1) pa_nil)) (nomark _))
        (pss_one (ps_ret pe_bl))
        pss_nil)
        (pss_cons (ps_lock (ps_for PassesOwn.never rfl (pi_keys (pv 1)) (pg_name (i := 3) sc_law_stands.nd rfl (.inl rfl))
        (pss_cons (ps_set (i := 4) sc_law_stands.nd rfl (.inl rfl) (pe_dn (ok_law_look T) (hr.mono (by decide)) (by rfl) (pa_cons (pv 1) (pa_cons (pv 3) (pa_cons (pv 2) pa_nil)))))
        (pss_cons (ps_if (PW.pt (pw_or (pt_not (pt_val (pe_dn (ok_law_cue_right T L) (hr.mono (by decide)) (by rfl) (pa_cons (pv 0) (pa_cons (pv 1) (pa_cons (pv 3) pa_nil)))))) (pw_or1 (pt_not (pt_val (pe_dn (ok_law_same T) (hr.mono (by decide)) (by rfl) (pa_cons (PI.pe_dm (L.look hL) L.cls (hr.mono (by decide)) (pv 0) (pa_cons (pv 3) pa_nil)) (pa_cons (pv 4) pa_nil))))))))
        (pss_one (ps_ret pe_bl))
        pss_nil)
        (pss_one (ps_for PassesOwn.never rfl (pi_list (pv 2)) (pg_name (i := 5) sc_law_stands.nd rfl (.inl rfl))
        (pss_one (ps_if (pt_cmpR op_ne (PI.pe_dm L.level L.cls (hr.mono (by decide)) (pv 0) (pa_cons (pv 3) (pa_cons (pv 5) pa_nil))) (pe_dget2 hu (pv 4) (pv 5) pe_int ⟨rfl, rfl, rfl, rfl⟩) (nomark _))
        (pss_one (ps_ret pe_bl))
        pss_nil))))))))
        (pss_one (ps_ret pe_bl)))), ?_⟩
    have ndB := gd.nd
    have ea : ((asc B).map fun c => V.int c.n) = (asc (bk R)).map fun c => V.int c.n := by
      have y := congrArg (List.map V.int) (LikeB.asc_ lk ndB)
      rw [List.map_map, List.map_map] at y
      exact y
    have sh : SeqAt.shaped (.list ((asc (bk R)).map fun c => PyData.int c.n)) = true := shaped_list _ _ (fun a _ => by rw [PyData.canLay0]) fun a _ => by
      rw [PyData.depth]
      exact Nat.zero_le _
    have c0 := (Bool.and_eq_true_iff.mp (show (_ && _) = true from sh)).1
    refine q_when (b := false) (et_is (et_test (ev_opLL (el_m L hA (m := "numbers") (by decide) (ev_var rfl) ea_nil fun H1 e1 => ⟨p, ls, B, fp, rfl, L.ex hA e1, ea.symm⟩) (el_sortD (ev_var rfl) hM) fun x y H1 hx hy e1 => rv_neD (fun H2 e2 => dp_lst (f := fun c : Cu => V.int c.n) (g := fun c : Cu => PyData.int c.n) (.of (e2 _ _ hx)) fun c => .int c.n) (fun H2 e2 => dp_lst (f := fun c : Cu => V.int c.n) (g := fun c : Cu => PyData.int c.n) (.of (e2 _ _ hy)) fun c => .int c.n) sh sh)) (by rw [SeqAt.eqv_refl _ c0]; rfl)) (fun hb => absurd hb (by decide)) fun _ H1 e1 => ?_
    refine q_forKeys (e1 _ _ hD) (fun H2 => ev_var rfl) (fun o i σ' H' => ∃ y3 y4 y5, σ' = [some (.ref p), some (.ref m), some (.ref a), y3, y4, y5] ∧ Ex (upd H1 m (.frz o (.dK (mkv R)))) H') (fun o => ⟨none, none, none, rfl, Ex.refl _⟩) (fun o i σ' H' ⟨_, _, _, _, e⟩ => e _ _ upd_same)
      (fun o σ' Ha Hb e ⟨y3, y4, y5, h, k⟩ => ⟨y3, y4, y5, h, k.trans e⟩) (fun o i k x σ' H' hx => ?_) fun o σ' H' => ?_
    · rintro ⟨y3, y4, y5, rfl, e⟩
      obtain ⟨r, hr0, rfl, rfl⟩ := mkv_at hx
      have hM2 := ((hM.ex e1).lock (e1 _ _ hD) o).ex e
      have hA2 := L.ex (L.off (L.ex hA e1) nm (.frz o (.dK (mkv R)))) e
      have hS2 := ex_l e (sql_upd (u := .frz o (.dK (mkv R))) (ex_l e1 hS) (e1 _ _ hD))
      have hn : r.c.n ∈ (bk R).map (·.n) := List.mem_map.mpr ⟨r.c, List.mem_map.mpr ⟨r, hr0, rfl⟩, rfl⟩
      have hL : LookIs (bk R) r.c.n (lookOf (bk R) r.c.n qs) := look_is hq.cov
      have hLB := LikeB.look lk ndB hL
      have hnB := (LikeB.mem lk ndB).mpr hn
      refine q_asgD (ed_call (ea_cons (ev_var rfl) (ea_cons (ev_var rfl) (ea_cons (ev_var rfl) ea_nil))) fun H2 e2 => ⟨m, a, R, r.c.n, qs, rfl, hM2.ex e2, ex_l e2 hS2, hq.few, rfl⟩) fun d H2 nd e2 hd => ?_
      refine q_when (b := false) (et_is (a := !true || !true) (et_or (et_not (et_test (ev_callR (ea_cons (ev_var rfl) (ea_cons (ev_var rfl) (ea_cons (ev_var rfl) ea_nil))) fun H3 e3 => ⟨p, m, R, r, ls, B, fp, rfl, hM2.ex (e2.trans e3), L.ex hA2 (e2.trans e3), lk, gd, hr0, rfl⟩))) fun _ =>
        et_not (et_test (ev_call_Dx (ed_m L (L.ex hA2 e2) (m := "look") (by decide) (ev_var rfl) (ea_cons (ev_var rfl) ea_nil) fun H3 e3 => ⟨p, ls, B, fp, r.c.n, _, rfl, L.ex hA2 (e2.trans e3), hnB, hLB, rfl⟩) (ev_var rfl) fun d2 H3 e3 h3 => ⟨d2, d, _, rfl, h3, e3 _ _ hd, fun x hx => lamp_strOk (look_ok gd hL x hx), by have := look_few gd hL; omega, rfl⟩))) rfl) (fun hb => absurd hb (by decide)) fun _ H3 e3 => ?_
      refine s_forLn (ev_var rfl) (ex_l (e2.trans e3) hS2) (fun j σ' H' => ∃ y5, σ' = [some (.ref p), some (.ref m), some (.ref a), some (.int r.c.n), some (.ref d), y5] ∧ Ex H3 H') (fun H4 e4 => ⟨y5, rfl, e4⟩) (fun j σ' H' _ ⟨_, _, e4⟩ => ex_l (e2.trans (e3.trans e4)) hS2) (fun j x σ' H' hx => ?_) fun σ' H' => ?_
      · rintro ⟨y5, rfl, e4⟩
        rw [List.getElem?_map] at hx
        obtain ⟨l, hl, rfl⟩ := Option.map_eq_some_iff.mp hx
        have hl := List.mem_of_getElem? hl
        have e24 := e2.trans (e3.trans e4)
        refine s_when (b := false) (et_is (et_test (ev_op (ev_m L (L.ex hA2 e24) (m := "level") (by decide) (ev_var rfl) (ea_cons (ev_var rfl) (ea_cons (ev_var rfl) ea_nil)) fun H5 e5 => ⟨p, ls, B, fp, r.c.n, l, rfl, L.ex hA2 (e24.trans e5), hnB, hq.ok l hl, by rw [LikeB.lvl lk ndB]⟩) (ev_is (ev_get2 (k := .inr l) (ev_var rfl) (ev_var rfl) ev_c (e4 _ _ (e3 _ _ hd))) (look_get gd hL l)) (rv_ne rfl))) (by rw [decide_eq_true rfl]; rfl)) (fun hb => absurd hb (by decide)) fun _ H5 e5 => ⟨_, rfl, e4.trans e5⟩
      · rintro ⟨y5, rfl, e4⟩
        exact ⟨_, _, _, rfl, e.trans (e2.trans (e3.trans e4))⟩
    · rintro ⟨y3, y4, y5, rfl, e⟩
      exact s_ret ev_c fun H2 e2 => q.go (e1.trans ((ex_lock (e1 _ _ hD) e).trans e2))
end
end LW

namespace LW
open PySem PySem.Spec PyProof.Rows L2 Evl HB HS MB HW HM HI PI MC HJ PS
section
variable {P : Program} {w : World} {K : PySem.W.Frag} {mg : Str → Option Value} {base : Heap} {C : Addr} {At : AtT}
/-! ### _law_put -/
def spLput (At : AtT) : Sp := fun vs H Q _ => ∃ p m ls R fp n mix, vs = [.ref p, .ref m, .int n, .int mix] ∧ St At H p m ls R (bk R) fp ∧ n ∉ (bk R).map (·.n) ∧ 1 ≤ n ∧ n ≤ 999999 ∧ R.length < 100 ∧
  DeedL At p m ls R fp (fun B => ∃ c : Cu, B = bk R ++ [c] ∧ c.n = n ∧ c.ws = []) H Q
theorem ok_law_put (T : Top K mg) (L : Pl P w K mg base C At) : Dn P w K mg base "_law_put" 22 ["_law_play", "_law_model", "_law_number", "_law_mix"] (spLput At) := by
  refine T.d__law_put.ok sc_law_put (fun vs H Q E h => ?_) (fun f cdv A outer s H vs Q E hr h => ?_)
  · obtain ⟨p, m, ls, R, fp, n, mix, rfl, _⟩ := h
    rfl
  · obtain ⟨p, m, ls, R, fp, n, mix, rfl, hs, hn, n1, n2, hl, q⟩ := h
    have hu := hu_of hr
    refine ⟨_, (pss_cons (ps_set (i := 4) sc_law_put.nd rfl (.inl rfl) (pe_ix (r := rIxL K) ix_list (pe_lst (pa_cons pe_int (pa_cons pe_int (pa_cons (pe_op op_mod (pv 3) pe_int) (pa_cons pe_int pa_nil))))) (pe_op op_mod (pe_op op_fdiv (pv 3) pe_int) pe_int) (fun _ _ => rfl)))
        (pss_cons (ps_set (i := 5) sc_law_put.nd rfl (.inl rfl) (pe_ix (r := rIxL K) ix_list (pe_lst (pa_cons pe_int (pa_cons pe_int (pa_cons (pe_op op_mod (pe_op op_fdiv (pv 3) pe_int) pe_int) (pa_cons pe_int pa_nil))))) (pe_op op_mod (pe_op op_fdiv (pv 3) pe_int) pe_int) (fun _ _ => rfl)))
        (pss_cons (ps_set (i := 6) sc_law_put.nd rfl (.inl rfl) (pe_cmpR op_eq (pe_op op_mod (pe_op op_fdiv (pv 3) pe_int) pe_int) pe_int (nomark _)))
        (pss_cons (ps_dput hu (pv 1) (pv 2) (pe_lst (pa_cons (pv 4) (pa_cons (pv 5) (pa_cons (pv 6) (pa_cons pe_dnewK pa_nil))))) rfl)
        (pss_cons (ps_if (PW.pt (pw_and (pt_cmpR op_eq (pe_op op_mod (pe_op op_fdiv (pv 3) pe_int) pe_int) pe_int (nomark _)) (pw_and1 (pt_not (pt_val (pv 6))))))
        (pss_cons (ps_dput hu (pv 1) (pv 2) (pe_lst (pa_cons (pv 4) (pa_cons pe_int (pa_cons pe_bl (pa_cons pe_dnewK pa_nil))))) rfl)
        (pss_one (ps_ret (PI.pe_dm L.put2 L.cls (hr.mono (by decide)) (pv 0) (pa_cons (pv 2) (pa_cons (pv 4) pa_nil))))))
        pss_nil)
        (pss_one (ps_ret (PI.pe_dm L.put4 L.cls (hr.mono (by decide)) (pv 0) (pa_cons (pv 2) (pa_cons (pv 4) (pa_cons (pv 5) (pa_cons (pv 6) pa_nil)))))))))))), ?_⟩
    obtain ⟨up, hup, aup⟩ := at4 (a := 0) (b := 1) (c := mix % 6001) (d := 6000) (i := mix / 7 % 4) (Int.emod_nonneg _ (by decide)) (Int.emod_lt_of_pos _ (by decide))
    obtain ⟨dn, hdn, adn⟩ := at4 (a := 0) (b := 1) (c := mix / 11 % 6001) (d := 6000) (i := mix / 13 % 4) (Int.emod_nonneg _ (by decide)) (Int.emod_lt_of_pos _ (by decide))
    have fade : ∀ {x y : Int}, (x = 0 ∨ x = 1 ∨ x = y % 6001 ∨ x = 6000) → 0 ≤ x ∧ x ≤ 6000 := fun {x y} h => by
      have h1 := Int.emod_nonneg y (show (6001 : Int) ≠ 0 by decide)
      have h2 := Int.emod_lt_of_pos y (show (0 : Int) < 6001 by decide)
      rcases h with h | h | h | h <;> (constructor <;> omega)
    have fu := fade hup
    have fd := fade hdn
    have hk : (mkv R).length < 100000 := by
      show (R.map _).length < _
      rw [List.length_map]
      omega
    have gd := L.good hs.pl
    refine q_asg (v := .int up) (ev_ixN (el_lst (ea_cons ev_c (ea_cons ev_c (ea_cons (ev_op (ev_var rfl) ev_c (rv_I (by decide))) (ea_cons ev_c ea_nil)))) (by show 4 ≤ 100000; decide)) (ev_op (ev_op (ev_var rfl) ev_c (rv_I ⟨by decide, by decide⟩)) ev_c (rv_I (by decide))) aup) fun H1 e1 => ?_
    refine q_asg (v := .int dn) (ev_ixN (el_lst (ea_cons ev_c (ea_cons ev_c (ea_cons (ev_op (ev_op (ev_var rfl) ev_c (rv_I ⟨by decide, by decide⟩)) ev_c (rv_I (by decide))) (ea_cons ev_c ea_nil)))) (by show 4 ≤ 100000; decide)) (ev_op (ev_op (ev_var rfl) ev_c (rv_I ⟨by decide, by decide⟩)) ev_c (rv_I (by decide))) adn) fun H2 e2 => ?_
    obtain ⟨fr, hfr⟩ : ∃ fr, fr = decide (V.int (mix / 17 % 4) = V.int 0) := ⟨_, rfl⟩
    refine q_asg (v := .bl fr) (ev_is (ev_op (ev_op (ev_op (ev_var rfl) ev_c (rv_I ⟨by decide, by decide⟩)) ev_c (rv_I (by decide))) ev_c (rv_eq rfl)) (by rw [hfr])) fun H3 e3 => ?_
    have e := e1.trans (e2.trans e3)
    refine q_putRow (ev_var rfl) (ev_var rfl) (ev_var rfl) (ev_var rfl) (ev_var rfl) (e _ _ hs.mdk) hk fun la wa H4 nl nw e4 hla hwa => ?_
    rw [put_mkv (r := ⟨⟨n, up, dn, fr, []⟩, la, wa⟩) hn]
    have off4 : ∀ b u, b ≠ m → H b = some u → H4 b = some u := fun b u _ h => e4 _ _ (e _ _ h)
    have done : ∀ (c : Cu) (la wa : Addr) (H6 : Hp), c.n = n → c.ws = [] → GoodC c → (∀ b u, b ≠ m → H b = some u → H6 b = some u) → H la = none → H wa = none → H6 la = some (.lst [.int c.up, .int c.down, .bl c.fr, .ref wa]) → H6 wa = some (.dK []) →
        St At (upd H6 m (.dK (mkv (R ++ [⟨c, la, wa⟩])))) p m ls (R ++ [⟨c, la, wa⟩]) (bk R) fp ∧ Good ls (bk R ++ [c]) ∧ ∀ H7, Ex (upd H6 m (.dK (mkv (R ++ [⟨c, la, wa⟩])))) H7 → ∀ H8 fp', At H8 p ls (bk R ++ [c]) fp' → Mv fp H7 fp' H8 → Q .non H8 := fun c la wa H6 cn cw gc off nl nw hla hwa => by
      subst cn
      obtain ⟨s2, v2⟩ := hs.model L (hs.mat.put (r := ⟨c, la, wa⟩) off hn nl nw hla (by rw [hwa, cw]; rfl) gc.nd) upd_same (Mv.put off nl nw _)
      refine ⟨s2, good_put gd hn gc cw (by show (R.map _).length < 100; rw [List.length_map]; exact hl), fun H7 e7 H8 fp' hA v => ?_⟩
      obtain ⟨s3, v3⟩ := (s2.ex L e7).play hA v
      exact q H8 (R ++ [⟨c, la, wa⟩]) fp' (by rw [bk_put]; exact s3) ⟨c, bk_put _ _, rfl, cw⟩ (v2.trans ((Mv.of_ex e7).trans v3))
    refine q_when (et_and (et_test (ev_op (ev_op (ev_op (ev_var rfl) ev_c (rv_I ⟨by decide, by decide⟩)) ev_c (rv_I (by decide))) ev_c (rv_eq rfl))) fun _ => et_not (et_test (ev_var rfl))) (fun hb H5 e5 => ?_) fun hb H5 e5 => ?_
    · refine q_putRow (ev_var rfl) ev_c ev_c (ev_var rfl) (ev_var rfl) (e5 _ _ upd_same) (by show ((R ++ _).map _).length < _; rw [List.length_map, List.length_append]; show R.length + 1 < 100000; omega) fun la2 wa2 H6 nl2 nw2 e6 hla2 hwa2 => ?_
      rw [put_mkv2 (r := ⟨⟨n, up, dn, fr, []⟩, la, wa⟩) (r2 := ⟨⟨n, up, 0, false, []⟩, la2, wa2⟩) hn rfl]
      have new : ∀ {b : Addr}, H5 b = none → H b = none := fun {b} h => by
        have h := fresh_back e5 h
        have nb : b ≠ m := fun z => by rw [z, upd_same] at h; cases h
        rw [upd_ne nb] at h
        exact fresh_back (e.trans e4) h
      obtain ⟨s2, g2, k2⟩ := done ⟨n, up, 0, false, []⟩ la2 wa2 H6 rfl rfl ⟨n1, n2, fu.1, fu.2, by show (0 : Int) ≤ 0; decide, by show (0 : Int) ≤ 6000; decide, List.nodup_nil, fun x hx => absurd hx List.not_mem_nil⟩ (fun b u nb h => e6 _ _ (e5 _ _ (by rw [upd_ne nb]; exact off4 b u nb h))) (new nl2) (new nw2) hla2 hwa2
      exact t_m L s2.pl (m := "put") (by decide) (ev_var rfl) (ea_cons (ev_var rfl) (ea_cons (ev_var rfl) ea_nil)) fun H7 e7 => ⟨p, ls, bk R, fp, n, up, 0, false, rfl, L.ex s2.pl e7, hn, g2, k2 H7 e7⟩
    · obtain ⟨s2, g2, k2⟩ := done ⟨n, up, dn, fr, []⟩ la wa H4 rfl rfl ⟨n1, n2, fu.1, fu.2, fd.1, fd.2, List.nodup_nil, fun x hx => absurd hx List.not_mem_nil⟩ off4 (fresh_back e nl) (fresh_back e nw) hla hwa
      exact t_m L (L.ex s2.pl e5) (m := "put") (by decide) (ev_var rfl) (ea_cons (ev_var rfl) (ea_cons (ev_var rfl) (ea_cons (ev_var rfl) (ea_cons (ev_var rfl) ea_nil)))) fun H7 e7 => ⟨p, ls, bk R, fp, n, up, dn, fr, rfl, L.ex s2.pl (e5.trans e7), hn, g2, k2 H7 (e5.trans e7)⟩
end
end LW

namespace LW
open PySem PySem.Spec PyProof.Rows L2 Evl HB HS MB HW HM HI PI MC HJ PS
section
variable {P : Program} {w : World} {K : PySem.W.Frag} {mg : Str → Option Value} {base : Heap} {C : Addr} {At : AtT}
/-- a call of the law's hold, its value left -/
theorem q_hold {σ : L2.St} {H : Hp} {t1 t2 t3 t4 : TE} {D : Ends} {tz : TS} {m : Addr} {R : List CRow} {o : Option Int} {l : Str} {due : Int} (h1 : Ev t1 σ H (.ref m)) (h2 : Ev t2 σ H (optV o)) (h3 : Ev t3 σ H (.str l)) (h4 : Ev t4 σ H (.int due)) (hM : MAt H m R) (hD : H m = some (.dK (mkv R)))
    (ho : ∀ n, o = some n → ∃ r ∈ R, r.c.n = n) (hz : ∀ r ∈ R, r.c.ws.length ≤ 1000) (q : ∀ H' R', MAt H' m R' → H' m = some (.dK (mkv R')) → Mv (MF m R) H (MF m R') H' → bk R' = holdB (bk R) o l due → tz D σ H') : tSeq (tDrop (tCall spHold [] E0 (tCons t1 (tCons t2 (tCons t3 (tCons t4 tNil)))))) tz D σ H :=
  (ea_cons h1 (ea_cons h2 (ea_cons h3 (ea_cons h4 ea_nil)))) H (Ex.refl H) (fun vs H1 => spHold (vs ++ []) H1 (fun _ H' => tz D σ H') E0) fun H1 e1 => ⟨m, R, o, l, due, rfl, hM.ex e1, e1 _ _ hD, ho, hz, fun H' R' a b c d => q H' R' a b ((Mv.of_ex e1).trans c) d⟩
theorem s_hold {σ : L2.St} {H : Hp} {t1 t2 t3 t4 : TE} {D : Ends} {m : Addr} {R : List CRow} {o : Option Int} {l : Str} {due : Int} (h1 : Ev t1 σ H (.ref m)) (h2 : Ev t2 σ H (optV o)) (h3 : Ev t3 σ H (.str l)) (h4 : Ev t4 σ H (.int due)) (hM : MAt H m R) (hD : H m = some (.dK (mkv R)))
    (ho : ∀ n, o = some n → ∃ r ∈ R, r.c.n = n) (hz : ∀ r ∈ R, r.c.ws.length ≤ 1000) (q : ∀ H' R', MAt H' m R' → H' m = some (.dK (mkv R')) → Mv (MF m R) H (MF m R') H' → bk R' = holdB (bk R) o l due → D.nx σ H') : tDrop (tCall spHold [] E0 (tCons t1 (tCons t2 (tCons t3 (tCons t4 tNil))))) D σ H :=
  (ea_cons h1 (ea_cons h2 (ea_cons h3 (ea_cons h4 ea_nil)))) H (Ex.refl H) (fun vs H1 => spHold (vs ++ []) H1 (fun _ H' => D.nx σ H') E0) fun H1 e1 => ⟨m, R, o, l, due, rfl, hM.ex e1, e1 _ _ hD, ho, hz, fun H' R' a b c d => q H' R' a b ((Mv.of_ex e1).trans c) d⟩
/-- 0 if after is None else the level there -/
theorem ev_due {σ : L2.St} {H : Hp} {i : Nat} {tl : TE} {o : Option Int} {B : Bk} {l : Str} (ho : σ[i]? = some (some (optV o))) (hl : ∀ k, o = some k → Ev tl σ H (.int (lvl B k l))) :
    Ev (tIf (tTest (tOp (fun x y H Q => y = .non ∧ Q (.bl (decide (x = .non))) H) (tVar i) (tC .non))) (tC (.int 0)) tl) σ H (.int (dueB B o l)) := by
  refine ev_if (b := o.isNone) (et_test (ev_is (ev_op (ev_var ho) ev_c fun H1 _ _ q => ⟨rfl, q H1 (Ex.refl H1)⟩) (by cases o <;> rfl))) (fun hb => ?_) fun hb => ?_
  · cases o with
    | none => exact ev_c
    | some k => cases hb
  · cases o with
    | none => cases hb
    | some k => exact hl k rfl
/-! ### _law_only -/
def spLonly (At : AtT) : Sp := fun vs H Q _ => ∃ p m ls R fp n l v, vs = [.ref p, .ref m, .int n, .str l, .int v] ∧ St At H p m ls R (bk R) fp ∧ n ∈ (bk R).map (·.n) ∧ l ∈ ls ∧ 0 ≤ v ∧ v ≤ 100 ∧ DeedL At p m ls R fp (fun B => B = onlyB (bk R) n l v) H Q
theorem ok_law_only (T : Top K mg) (L : Pl P w K mg base C At) (hM : At.more) : Dn P w K mg base "_law_only" 22 ["_law_play", "_law_model", "_law_number", "_law_lamp", "_law_level_here"] (spLonly At) := by
  refine T.d__law_only.ok sc_law_only (fun vs H Q E h => ?_) (fun f cdv A outer s H vs Q E hr h => ?_)
  · obtain ⟨p, m, ls, R, fp, n, l, v, rfl, _⟩ := h
    rfl
  · obtain ⟨p, m, ls, R, fp, n, l, v, rfl, hs, hn, hl, v1, v2, q⟩ := h
    have hu := hu_of hr
    refine ⟨_, (pss_cons (ps_set (i := 5) sc_law_only.nd rfl (.inl rfl) (pe_dn (ok_law_behind T) (hr.mono (by decide)) (by rfl) (pa_cons (pv 1) (pa_cons (pv 2) pa_nil))))
        (pss_cons (ps_set (i := 6) sc_law_only.nd rfl (.inl rfl) (pe_ifExp (pt_cmpR op_isN (pv 5) pe_non (nomark _)) pe_int (pe_dn (ok_law_level T) (hr.mono (by decide)) (by rfl) (pa_cons (pv 1) (pa_cons (pv 5) (pa_cons (pv 3) pa_nil))))))
        (pss_cons (ps_dput hu (pe_ix (r := rIxL K) ix_list (pe_dget hu (pv 1) (pv 2) (fun _ _ => rfl)) pe_int (fun _ _ => rfl)) (pv 3) (pv 4) rfl)
        (pss_cons (ps_expr (pe_dn (ok_law_hold T) (hr.mono (by decide)) (by rfl) (pa_cons (pv 1) (pa_cons (pv 5) (pa_cons (pv 3) (pa_cons (pv 6) pa_nil))))))
        (pss_one (ps_ret (PI.pe_dm (L.only hM) L.cls (hr.mono (by decide)) (pv 0) (pa_cons (pv 2) (pa_cons (pv 3) (pa_cons (pv 4) pa_nil)))))))))), ?_⟩
    have gd := L.good hs.pl
    have hR : R.length ≤ 1000 := by
      have := gd.len
      rw [List.length_map] at this
      omega
    obtain ⟨r, hr0, rfl⟩ := row_at hn
    refine q_asg (v := optV (behindOf (bk R) r.c.n)) (ev_callR (ea_cons (ev_var rfl) (ea_cons (ev_var rfl) ea_nil)) fun H1 e1 => ⟨m, R, r.c.n, rfl, hs.mat.ex e1, hR, rfl⟩) fun H1 e1 => ?_
    obtain ⟨o, ho⟩ : ∃ o, o = behindOf (bk R) r.c.n := ⟨_, rfl⟩
    rw [← ho]
    have oin : ∀ k, o = some k → k ∈ (bk R).map (·.n) := fun k e => (behind_mem (n := r.c.n) (by rw [← ho, e])).1
    refine q_asg (v := .int (dueB (bk R) o l)) (ev_due rfl fun k e => ?_) fun H2 e2 => ?_
    · subst e
      exact ev_callR (ea_cons (ev_var rfl) (ea_cons (ev_var rfl) (ea_cons (ev_var rfl) ea_nil))) fun H2 e2 => ⟨m, R, k, l, rfl, hs.mat.ex (e1.trans e2), rfl⟩
    have e12 := e1.trans e2
    have hM2 := hs.mat.ex e12
    refine q_dput (k := .inr l) (v := .int v) (ev_var rfl) (ev_words (K := K) hM2 hr0 (ev_var (i := 1) rfl) (ev_var (i := 2) rfl) ev_c) (ev_var rfl) (hM2.row r hr0).2 (by rw [wkv_len]; have := words_few gd (List.mem_map.mpr ⟨r, hr0, rfl⟩); omega) fun H3 e3 => ?_
    rw [put_wkv]
    have e13 := e12.trans e3
    obtain ⟨s3, m3⟩ := hs.model L ((hs.mat.ex e13).setw hr0 l v) (by rw [upd_ne (Ne.symm (hs.mat.mw r hr0)), mkv_setR]; exact e13 _ _ hs.mdk) (Mv.setw hr0 e13 l v _)
    have lam3 : Lam ls (bk (setR R r.c.n l v)) := by rw [bk_setR]; exact setW_lam gd.lam _ v hl
    refine q_hold (ev_var rfl) (ev_var rfl) (ev_var rfl) (ev_var rfl) s3.mat s3.mdk (fun k e => row_at (by rw [bk_setR, setW_nums]; exact oin k e)) (row_few s3.mat lam3 gd.few) fun H4 R4 hM4 hD4 mv4 e4 => ?_
    obtain ⟨s4, m4⟩ := s3.model L hM4 hD4 mv4
    refine t_m L s4.pl (m := "only") (by decide) (ev_var rfl) (ea_cons (ev_var rfl) (ea_cons (ev_var rfl) (ea_cons (ev_var rfl) ea_nil))) fun H5 e5 => ⟨p, ls, bk R, fp, r.c.n, l, v, rfl, L.ex s4.pl e5, hn, hl, v1, v2, fun H6 fp' hA v6 => ?_⟩
    obtain ⟨s6, m6⟩ := (s4.ex L e5).play hA v6
    have eq : bk R4 = onlyB (bk R) r.c.n l v := by
      rw [e4, bk_setR, ho]
      rfl
    exact q H6 R4 fp' (by rw [eq]; exact s6) eq (m3.trans (m4.trans ((Mv.of_ex e5).trans m6)))
/-! ### _law_lift -/
def spLlift (At : AtT) : Sp := fun vs H Q _ => ∃ p m a ls R fp n, vs = [.ref p, .ref m, .int n, .ref a] ∧ St At H p m ls R (bk R) fp ∧ n ∈ (bk R).map (·.n) ∧ H a = some (.lst (ls.map V.str)) ∧ ¬ J fp m R a ∧ DeedL At p m ls R fp (fun B => B = liftB (bk R) n ls) H Q
theorem ok_law_lift (T : Top K mg) (L : Pl P w K mg base C At) (hM : At.more) : Dn P w K mg base "_law_lift" 22 ["_law_play", "_law_model", "_law_number", "_law_lamps_here"] (spLlift At) := by
  refine T.d__law_lift.ok sc_law_lift (fun vs H Q E h => ?_) (fun f cdv A outer s H vs Q E hr h => ?_)
  · obtain ⟨p, m, a, ls, R, fp, n, rfl, _⟩ := h
    rfl
  · obtain ⟨p, m, a, ls, R, fp, n, rfl, hs, hn, ha, na, q⟩ := h
    have hu := hu_of hr
    refine ⟨_, (pss_cons (ps_set (i := 4) sc_law_lift.nd rfl (.inr rfl) (pe_dn (ok_law_behind T) (hr.mono (by decide)) (by rfl) (pa_cons (pv 1) (pa_cons (pv 2) pa_nil))))
        (pss_cons (ps_setLc (i := 6) (own := [("_law_lamp", 5)]) (g := gName 5) (by rfl) sc_law_lift.nd rfl rfl (sw_true rfl rfl rfl (by decide +kernel)) (pi_list (pv 3)) (blkOk_by (own := [("_law_lamp", 5)]) (N := ns_law_lift) (sc := defScope s_law_lift) (by decide +kernel)) (fun _ _ _ _ _ => (pg_name (i := 5) sc_law_lift.nd rfl (.inl rfl))) (fun _ _ _ _ _ => pts_nil) (fun _ _ _ _ _ => (pe_ifExp (pt_cmpR op_isN (pv 4) pe_non (nomark _)) pe_int (pe_dn (ok_law_level T) (hr.mono (by decide)) (by rfl) (pa_cons (pv 1) (pa_cons (pv 4) (pa_cons (pv 5) pa_nil)))))))
        (pss_cons (ps_expr (pe_dpop1 (pv 1) (pv 2) ⟨rfl, rfl, rfl, rfl⟩))
        (pss_cons (ps_for PassesOwn.never rfl (pi_zip (by rfl) T.z_zip (pa_cons (pv 3) (pa_cons (pv 6) pa_nil))) (pg_tup rfl (pgs_cons (pg_name (i := 5) sc_law_lift.nd rfl (.inl rfl)) (pgs_cons (pg_name (i := 7) sc_law_lift.nd rfl (.inl rfl)) pgs_nil)))
        (pss_one (ps_expr (pe_dn (ok_law_hold T) (hr.mono (by decide)) (by rfl) (pa_cons (pv 1) (pa_cons (pv 4) (pa_cons (pv 5) (pa_cons (pv 7) pa_nil))))))))
        (pss_one (ps_ret (PI.pe_dm (L.lift hM) L.cls (hr.mono (by decide)) (pv 0) (pa_cons (pv 2) pa_nil)))))))), ?_⟩
    have gd := L.good hs.pl
    have hR : R.length ≤ 1000 := by
      have := gd.len
      rw [List.length_map] at this
      omega
    have few := gd.few
    refine q_asg (v := optV (behindOf (bk R) n)) (ev_callR (ea_cons (ev_var rfl) (ea_cons (ev_var rfl) ea_nil)) fun H1 e1 => ⟨m, R, n, rfl, hs.mat.ex e1, hR, rfl⟩) fun H1 e1 => ?_
    obtain ⟨o, ho⟩ : ∃ o, o = behindOf (bk R) n := ⟨_, rfl⟩
    rw [← ho]
    have oin : ∀ k, o = some k → k ∈ (bk R).map (·.n) ∧ n < k := fun k e => behind_mem (by rw [← ho, e])
    refine q_asgL (xs := ls.map fun l => .int (dueB (bk R) o l)) (el_mapL (α := Str) (xs := ls) V.str (fun l => .int (dueB (bk R) o l)) (ev_var rfl) (.of (e1 _ _ ha)) (by omega) (fun _ => rfl) fun l H2 e2 hl => ev_due rfl fun k e => ?_) fun d H2 nd e2 hd => ?_
    · subst e
      exact ev_callR (ea_cons (ev_var rfl) (ea_cons (ev_var rfl) (ea_cons (ev_var rfl) ea_nil))) fun H3 e3 => ⟨m, R, k, l, rfl, hs.mat.ex (e1.trans (e2.trans e3)), rfl⟩
    have e12 := e1.trans e2
    obtain ⟨r, hr0, rfl⟩ := row_at hn
    have hv : valV (mkv R) (.inl r.c.n) = some (.ref r.la) := by
      obtain ⟨r2, h2, e2, _, e3⟩ := row_of (cueAt_of hs.mat.nd (List.mem_map.mpr ⟨r, hr0, rfl⟩))
      rw [e3, nodup_at (nd_n hs.mat.nd) h2 hr0 (by rw [e2])]
    refine q_dpop (k := .inl r.c.n) (ev_var rfl) (ev_var rfl) (e12 _ _ hs.mdk) hv fun H3 e3 => ?_
    rw [drop_mkv]
    have e13 := e12.trans e3
    have hs3 := hs.ex L e13
    obtain ⟨s4, m4⟩ := hs3.model L (hs3.mat.less _) upd_same (Mv.less (Ex.refl H3) _ _)
    have ndJ : ¬ J fp m R d := fun z => by
      rcases z with z | z
      · obtain ⟨u, hu⟩ := L.known hs.pl z
        have := fresh_back e1 nd
        rw [hu] at this
        cases this
      · obtain ⟨u, hu⟩ := hs.mat.known z
        have := fresh_back e1 nd
        rw [hu] at this
        cases this
    obtain ⟨a4, na4⟩ := m4.off (e13 _ _ ha) na
    obtain ⟨d4, nd4⟩ := m4.off (e3 _ _ hd) ndJ
    have m04 := (Mv.of_ex (fp := J fp m R) e13).trans m4
    refine q_forZip (ev_var rfl) (ev_var rfl) (.of a4) (.of d4) (by rw [List.length_map, List.length_map]) (fun i σ' H' => ∃ y5 y7 R', σ' = [some (.ref p), some (.ref m), some (.int r.c.n), some (.ref a), some (optV o), y5, some (.ref d), y7] ∧ St At H' p m ls R' (bk R) fp ∧ Mv (J fp m R) H (J fp m R') H' ∧
        bk R' = holdsB (cutB (bk R) r.c.n) o ((ls.map fun l => (l, dueB (bk R) o l)).take i) ∧ Lam ls (bk R') ∧ (H' a = some (.lst (ls.map V.str)) ∧ ¬ J fp m R' a) ∧ H' d = some (.lst (ls.map fun l => .int (dueB (bk R) o l))) ∧ ¬ J fp m R' d)
      (fun H5 e5 => ⟨_, _, _, rfl, s4.ex L e5, m04.trans (Mv.of_ex e5), bk_less R r.c.n, by rw [bk_less]; exact cutB_lam gd.lam _, ⟨e5 _ _ a4, na4⟩, e5 _ _ d4, nd4⟩) (fun i σ' H' ⟨_, _, _, _, _, _, _, _, ha, hd, _⟩ => ⟨.of ha.1, .of hd⟩) (fun i x y σ' H' T hx hy => ?_) fun σ' H' => ?_
    · rintro ⟨y5, y7, R', rfl, s5, m5, b5, l5, a5, d5⟩ nT
      rw [List.getElem?_map] at hx hy
      obtain ⟨l, hl, rfl⟩ := Option.map_eq_some_iff.mp hx
      rw [hl] at hy
      cases hy
      have hlm := List.mem_of_getElem? hl
      have s6 := s5.ex L (Ex.new (o := HO.tup [V.str l, V.int (dueB (bk R) o l)]) nT)
      refine s_hold (ev_var rfl) (ev_var rfl) (ev_var rfl) (ev_var rfl) s6.mat s6.mdk (fun k e => row_at (by rw [b5, holdsB_nums]; exact cutB_nums (oin k e).1 (by have := (oin k e).2; omega))) (row_few s6.mat l5 few) fun H7 R7 hM7 hD7 mv7 e7 => ?_
      obtain ⟨s7, m7⟩ := s6.model L hM7 hD7 mv7
      have m57 := (Mv.of_ex (fp := J fp m R') (Ex.new (o := HO.tup [V.str l, V.int (dueB (bk R) o l)]) nT)).trans m7
      refine ⟨_, _, R7, rfl, s7, m5.trans m57, ?_, by rw [e7]; exact holdB_lam l5 o _ hlm, m57.off a5.1 a5.2, m57.off d5.1 d5.2⟩
      rw [e7, b5, List.take_add_one, List.getElem?_map, hl]
      unfold holdsB
      rw [List.foldl_append]
      rfl
    · rintro ⟨y5, y7, R', rfl, s5, m5, b5, l5, a5, d5⟩
      have eq : bk R' = liftB (bk R) r.c.n ls := by
        rw [b5, List.length_map, List.take_of_length_le (by rw [List.length_map]; exact Nat.le_refl _), ho]
        rfl
      refine t_m L s5.pl (m := "lift") (by decide) (ev_var rfl) (ea_cons (ev_var rfl) ea_nil) fun H7 e7 => ⟨p, ls, bk R, fp, r.c.n, rfl, L.ex s5.pl e7, hn, fun H8 fp' hA v8 => ?_⟩
      obtain ⟨s8, m8⟩ := (s5.ex L e7).play hA v8
      exact q H8 R' fp' (by rw [eq]; exact s8) eq (m5.trans ((Mv.of_ex e7).trans m8))
end
end LW
namespace LW
open PySem PySem.Spec PyProof.Rows L2 Evl HB HS MB HW HM HI PI MC HJ PS PT
section
variable {P : Program} {w : World} {K : PySem.W.Frag} {mg : Str → Option Value} {base : Heap} {C : Addr} {At : AtT}
/-! ### _law_done -/
def spLdone (At : AtT) : Sp := fun vs H Q _ => ∃ p m a b ls ns R fp mix, vs = [.ref p, .ref m, .ref a, .ref b, .int mix] ∧ St At H p m ls R (bk R) fp ∧ H a = some (.lst (ls.map V.str)) ∧ ¬ J fp m R a ∧ ls.length = 6 ∧ H b = some (.lst (ns.map V.int)) ∧ Nine ns ∧ InN ns (bk R) ∧ DeedL At p m ls R fp (InN ns) H Q
theorem ok_law_done (T : Top K mg) (L : Pl P w K mg base C At) (hL : At.full) (hM : At.more) : Dn P w K mg base "_law_done" 23 ["_law_play", "_law_model", "_law_lamps_here", "_law_numbers_here", "_law_mix"] (spLdone At) := by
  refine T.d__law_done.ok sc_law_done (fun vs H Q E h => ?_) (fun f cdv A outer s H vs Q E hr h => ?_)
  · obtain ⟨p, m, a, b, ls, ns, R, fp, mix, rfl, _⟩ := h
    rfl
  · obtain ⟨p, m, a, b, ls, ns, R, fp, mix, rfl, hs, ha, na, hl6, hb, h9, hin, q⟩ := h
    have hu := hu_of hr
    refine ⟨_, (pss_cons (ps_set (i := 5) sc_law_done.nd rfl (.inl rfl) (pe_ix (r := rIxL K) ix_list (pv 3) (pe_op op_mod (pe_op op_fdiv (pv 4) pe_int) pe_int) (fun _ _ => rfl)))
        (pss_cons (ps_set (i := 6) sc_law_done.nd rfl (.inl rfl) (pe_ix (r := rIxL K) ix_list (pv 2) (pe_op op_mod (pe_op op_fdiv (pv 4) pe_int) pe_int) (fun _ _ => rfl)))
        (pss_cons (ps_set (i := 7) sc_law_done.nd rfl (.inl rfl) (pe_ix (r := rIxL K) ix_list (pe_lst (pa_cons pe_int (pa_cons pe_int (pa_cons (pe_op op_mod (pe_op op_fdiv (pv 4) pe_int) pe_int) (pa_cons (pe_op op_mod (pe_op op_fdiv (pv 4) pe_int) pe_int) pa_nil))))) (pe_op op_mod (pe_op op_fdiv (pv 4) pe_int) pe_int) (fun _ _ => rfl)))
        (pss_cons (ps_set (i := 8) sc_law_done.nd rfl (.inl rfl) (pe_op op_mod (pe_op op_fdiv (pv 4) pe_int) pe_int))
        (pss_cons (ps_if (pt_cmp (pc_dnotin hu (pv 5) (pv 1)))
        (pss_one (ps_ret (pe_dn (ok_law_put T L) (hr.mono (by decide)) (by rfl) (pa_cons (pv 0) (pa_cons (pv 1) (pa_cons (pv 5) (pa_cons (pe_op op_fdiv (pv 4) pe_int) pa_nil)))))))
        pss_nil)
        (pss_cons (ps_if (pt_cmpR op_lt (pv 8) pe_int (nomark _))
        (pss_cons (ps_dput hu (pe_ix (r := rIxL K) ix_list (pe_dget hu (pv 1) (pv 5) (fun _ _ => rfl)) pe_int (fun _ _ => rfl)) (pv 6) (pv 7) rfl)
        (pss_one (ps_ret (PI.pe_dm L.tell L.cls (hr.mono (by decide)) (pv 0) (pa_cons (pv 5) (pa_cons (pv 6) (pa_cons (pv 7) pa_nil)))))))
        pss_nil)
        (pss_cons (ps_if (pt_cmpR op_lt (pv 8) pe_int (nomark _))
        (pss_one (ps_ret (pe_dn (ok_law_only T L hM) (hr.mono (by decide)) (by rfl) (pa_cons (pv 0) (pa_cons (pv 1) (pa_cons (pv 5) (pa_cons (pv 6) (pa_cons (pv 7) pa_nil))))))))
        pss_nil)
        (pss_cons (ps_if (PW.pt (pw_and (pt_cmpR op_eq (pv 8) pe_int (nomark _)) (pw_and1 (pt_cmp (pc_din hu (pv 6) (pe_ix (r := rIxL K) ix_list (pe_dget hu (pv 1) (pv 5) (fun _ _ => rfl)) pe_int (fun _ _ => rfl)))))))
        (pss_cons (ps_expr (pe_dpop1 (pe_ix (r := rIxL K) ix_list (pe_dget hu (pv 1) (pv 5) (fun _ _ => rfl)) pe_int (fun _ _ => rfl)) (pv 6) ⟨rfl, rfl, rfl, rfl⟩))
        (pss_one (ps_ret (PI.pe_dm (L.untell hL) L.cls (hr.mono (by decide)) (pv 0) (pa_cons (pv 5) (pa_cons (pv 6) pa_nil))))))
        pss_nil)
        (pss_cons (ps_if (PW.pt (pw_and (pt_cmpR op_eq (pv 8) pe_int (nomark _)) (pw_and1 (pt_cmpR op_eq (pe_op op_mod (pe_op op_fdiv (pv 4) pe_int) pe_int) pe_int (nomark _)))))
        (pss_cons (ps_expr (pe_dpop1 (pv 1) (pv 5) ⟨rfl, rfl, rfl, rfl⟩))
        (pss_one (ps_ret (PI.pe_dm (L.cut hM) L.cls (hr.mono (by decide)) (pv 0) (pa_cons (pv 5) pa_nil)))))
        pss_nil)
        (pss_cons (ps_if (pt_cmpR op_eq (pv 8) pe_int (nomark _))
        (pss_one (ps_ret (pe_dn (ok_law_lift T L hM) (hr.mono (by decide)) (by rfl) (pa_cons (pv 0) (pa_cons (pv 1) (pa_cons (pv 5) (pa_cons (pv 2) pa_nil)))))))
        pss_nil)
        (pss_cons (ps_dput hu (pe_ix (r := rIxL K) ix_list (pe_dget hu (pv 1) (pv 5) (fun _ _ => rfl)) pe_int (fun _ _ => rfl)) (pv 6) (pv 7) rfl)
        (pss_one (ps_ret (PI.pe_dm L.tell L.cls (hr.mono (by decide)) (pv 0) (pa_cons (pv 5) (pa_cons (pv 6) (pa_cons (pv 7) pa_nil))))))))))))))))), ?_⟩
    have gd := L.good hs.pl
    have i1 := Int.emod_nonneg (mix / 3) (show (9 : Int) ≠ 0 by decide)
    have i2 := Int.emod_lt_of_pos (mix / 3) (show (0 : Int) < 9 by decide)
    have j1 := Int.emod_nonneg (mix / 29) (show (6 : Int) ≠ 0 by decide)
    have j2 := Int.emod_lt_of_pos (mix / 29) (show (0 : Int) < 6 by decide)
    obtain ⟨vn, hvn, an⟩ := atI_in (xs := ns.map V.int) (i := mix / 3 % 9) i1 (by rw [List.length_map, h9.len]; omega)
    obtain ⟨n, hn9, rfl⟩ := List.mem_map.mp hvn
    obtain ⟨vl, hvl, al⟩ := atI_in (xs := ls.map V.str) (i := mix / 29 % 6) j1 (by rw [List.length_map, hl6]; omega)
    obtain ⟨l, hl, rfl⟩ := List.mem_map.mp hvl
    obtain ⟨v, hv, av⟩ := at4 (a := 0) (b := 100) (c := mix / 31 % 101) (d := mix / 31 % 4) (i := mix / 37 % 4) (Int.emod_nonneg _ (by decide)) (Int.emod_lt_of_pos _ (by decide))
    have v12 : 0 ≤ v ∧ v ≤ 100 := by
      have h1 := Int.emod_nonneg (mix / 31) (show (101 : Int) ≠ 0 by decide)
      have h2 := Int.emod_lt_of_pos (mix / 31) (show (0 : Int) < 101 by decide)
      have h3 := Int.emod_nonneg (mix / 31) (show (4 : Int) ≠ 0 by decide)
      have h4 := Int.emod_lt_of_pos (mix / 31) (show (0 : Int) < 4 by decide)
      rcases hv with h | h | h | h <;> (constructor <;> omega)
    refine q_asg (v := .int n) (ev_ixK (ev_var rfl) (ev_op (ev_op (ev_var rfl) ev_c (rv_I ⟨by decide, by decide⟩)) ev_c (rv_I (by decide))) (.of hb) an) fun H1 e1 => ?_
    refine q_asg (v := .str l) (ev_ixK (ev_var rfl) (ev_op (ev_op (ev_var rfl) ev_c (rv_I ⟨by decide, by decide⟩)) ev_c (rv_I (by decide))) (.of (e1 _ _ ha)) al) fun H2 e2 => ?_
    refine q_asg (v := .int v) (ev_ixN (el_lst (ea_cons ev_c (ea_cons ev_c (ea_cons (ev_op (ev_op (ev_var rfl) ev_c (rv_I ⟨by decide, by decide⟩)) ev_c (rv_I (by decide))) (ea_cons (ev_op (ev_op (ev_var rfl) ev_c (rv_I ⟨by decide, by decide⟩)) ev_c (rv_I (by decide))) ea_nil)))) (by show 4 ≤ 100000; decide)) (ev_op (ev_op (ev_var rfl) ev_c (rv_I ⟨by decide, by decide⟩)) ev_c (rv_I (by decide))) av) fun H3 e3 => ?_
    refine q_asg (v := .int (mix / 41 % 10)) (ev_op (ev_op (ev_var rfl) ev_c (rv_I ⟨by decide, by decide⟩)) ev_c (rv_I (by decide))) fun H4 e4 => ?_
    have e := e1.trans (e2.trans (e3.trans e4))
    have s4 := hs.ex L e
    obtain ⟨wy, hwy⟩ : ∃ wy, wy = mix / 41 % 10 := ⟨_, rfl⟩
    rw [← hwy]
    have n1 := h9.lo n hn9
    have n2 := h9.hi n hn9
    by_cases hn : n ∈ (bk R).map (·.n)
    · obtain ⟨r, hr0, rfl⟩ := row_at hn
      have hsome : (valV (mkv R) (.inl r.c.n)).isSome = true := by
        obtain ⟨r2, _, _, _, e3⟩ := row_of (cueAt_of hs.mat.nd (List.mem_map.mpr ⟨r, hr0, rfl⟩))
        rw [e3]; rfl
      refine q_when (b := false) (et_is (et_B (ev_dnotin (k := .inl r.c.n) (ev_var rfl) (ev_var rfl) (.inl s4.mdk))) (by rw [hsome]; rfl)) (fun hb => absurd hb (by decide)) fun _ H5 e5 => ?_
      have fin : ∀ {H5}, Ex H H5 → ∀ H' R' fp', St At H' p m ls R' (bk R') fp' → InN ns (bk R') → Mv (J fp m R) H5 (J fp' m R') H' → Q .non H' := fun {H5} e5 H' R' fp' s' i' v' => q H' R' fp' s' i' ((Mv.of_ex e5).trans v')
      have inW : ∀ {B : Bk} {n : Int} {l : Str} {v : Int}, InN ns B → InN ns (setW B n l v) := fun h => by unfold InN; rw [setW_nums]; exact h
      have inC : ∀ {B : Bk} {n : Int}, InN ns B → InN ns (cutB B n) := fun h k hk => by
        obtain ⟨c, hc, rfl⟩ := List.mem_map.mp hk
        exact h _ (List.mem_map.mpr ⟨c, (List.mem_filter.mp hc).1, rfl⟩)
      have s5 := s4.ex L e5
      have e05 := e.trans e5
      refine q_when (et_test (ev_op (ev_var rfl) ev_c rv_I0)) (fun hb H6 e6 => ?_) fun hb H6 e6 => ?_
      · exact s_tell L (s5.ex L e6) hr0 hl v12.1 v12.2 rfl rfl rfl rfl rfl fun H' R' fp' s' eB v' => fin (e05.trans e6) H' R' fp' s' (by rw [eB]; exact inW hin) v'
      have e06 := e05.trans e6
      have s6 := s5.ex L e6
      refine q_when (et_test (ev_op (ev_var rfl) ev_c rv_I0)) (fun hb H7 e7 => ?_) fun hb H7 e7 => ?_
      · refine s_retC (ea_cons (ev_var rfl) (ea_cons (ev_var rfl) (ea_cons (ev_var rfl) (ea_cons (ev_var rfl) (ea_cons (ev_var rfl) ea_nil))))) fun H8 e8 => ⟨p, m, ls, R, fp, r.c.n, l, v, rfl, s6.ex L (e7.trans e8), hn, hl, v12.1, v12.2, fun H' R' fp' s' eB v' => fin (e06.trans (e7.trans e8)) H' R' fp' s' ?_ v'⟩
        rw [eB]
        unfold InN onlyB
        rw [holdB_nums, setW_nums]
        exact hin
      have e07 := e06.trans e7
      have s7 := s6.ex L e7
      refine q_when (et_and (et_test (ev_op (ev_var rfl) ev_c (rv_eq rfl))) fun _ => et_B (ev_din (k := .inr l) (ev_var rfl) (ev_words (K := K) s7.mat hr0 (ev_var rfl) (ev_var rfl) ev_c) (.inl (s7.mat.row r hr0).2))) (fun hb H8 e8 => ?_) fun hb H8 e8 => ?_
      · have hw : (wlook r.c.ws l).isSome = true := by
          have := (Bool.and_eq_true_iff.mp hb).2
          rw [val_wkv, Option.isSome_map] at this
          exact this
        refine s_untell L (s7.ex L e8) hr0 hw rfl rfl rfl rfl fun H' R' fp' s' eB v' => fin (e07.trans e8) H' R' fp' s' ?_ v'
        rw [eB]
        unfold InN dropW modB
        rw [List.map_map, show ((fun c : Cu => c.n) ∘ fun c => if c.n = r.c.n then { c with ws := wdrop c.ws l } else c) = fun c : Cu => c.n from funext fun c => by show (if c.n = r.c.n then _ else c).n = c.n; split <;> rfl]
        exact hin
      have e08 := e07.trans e8
      have s8 := s7.ex L e8
      refine q_when (et_and (et_test (ev_op (ev_var rfl) ev_c (rv_eq rfl))) fun _ => et_test (ev_op (ev_op (ev_op (ev_var rfl) ev_c (rv_I ⟨by decide, by decide⟩)) ev_c (rv_I (by decide))) ev_c (rv_eq rfl))) (fun hb H9 e9 => ?_) fun hb H9 e9 => ?_
      · exact s_cut L (s8.ex L e9) hr0 rfl rfl rfl fun H' R' fp' s' eB v' => fin (e08.trans e9) H' R' fp' s' (by rw [eB]; exact inC hin) v'
      have e09 := e08.trans e9
      have s9 := s8.ex L e9
      refine q_when (et_test (ev_op (ev_var rfl) ev_c (rv_eq rfl))) (fun hb Ha ea => ?_) fun hb Ha ea => ?_
      · have e0a := e09.trans ea
        refine s_retC (ea_cons (ev_var rfl) (ea_cons (ev_var rfl) (ea_cons (ev_var rfl) (ea_cons (ev_var rfl) ea_nil)))) fun Hb eb => ⟨p, m, a, ls, R, fp, r.c.n, rfl, s9.ex L (ea.trans eb), hn, (e0a.trans eb) _ _ ha, na, fun H' R' fp' s' eB v' => fin (e0a.trans eb) H' R' fp' s' ?_ v'⟩
        rw [eB]
        unfold InN liftB
        rw [holdsB_nums]
        exact inC hin
      · exact s_tell L (s9.ex L ea) hr0 hl v12.1 v12.2 rfl rfl rfl rfl rfl fun H' R' fp' s' eB v' => fin (e09.trans ea) H' R' fp' s' (by rw [eB]; exact inW hin) v'
    · have hlen : R.length < 100 := by
        have := nodup_len gd.nd hin
        rw [List.length_map, List.length_map, h9.len] at this
        omega
      refine q_when (b := true) (et_is (et_B (ev_dnotin (k := .inl n) (ev_var rfl) (ev_var rfl) (.inl s4.mdk))) (by rw [val_none hn]; rfl)) (fun _ H5 e5 => ?_) fun hb => absurd hb (by decide)
      refine s_retC (ea_cons (ev_var rfl) (ea_cons (ev_var rfl) (ea_cons (ev_var rfl) (ea_cons (ev_op (ev_var rfl) ev_c (rv_I ⟨by decide, by decide⟩)) ea_nil)))) fun H6 e6 => ⟨p, m, ls, R, fp, n, mix / 5, rfl, s4.ex L (e5.trans e6), hn, n1, n2, hlen, fun H' R' fp' s' ⟨c, eB, cn, _⟩ v' => q H' R' fp' s' ?_ ((Mv.of_ex (e.trans (e5.trans e6))).trans v')⟩
      rw [eB]
      intro k hk
      rw [List.map_append] at hk
      rcases List.mem_append.mp hk with h | h
      · exact hin k h
      · have h : k ∈ [c.n] := h
        rw [List.mem_singleton.mp h, cn]
        exact hn9
end
end LW

namespace LW
open PySem PySem.Spec PyProof.Rows L2 Evl HB HS MB HW HM HI PI MC HJ PS PT
theorem nums_nine (c : Int) : Nine (numsOf c) := by
  have h1 := Int.emod_nonneg c (show (999000 : Int) ≠ 0 by decide)
  have h2 := Int.emod_lt_of_pos c (show (0 : Int) < 999000 by decide)
  refine ⟨rfl, fun n hn => ?_, fun n hn => ?_⟩ <;>
  · unfold numsOf at hn
    simp only [List.mem_cons, List.not_mem_nil, or_false] at hn
    omega
section
variable {P : Program} {w : World} {K : PySem.W.Frag} {mg : Str → Option Value} {base : Heap} {C : Addr} {At : AtT}
/-! ### _law_built -/
def spLbuilt (K : PySem.W.Frag) (At : AtT) : Sp := fun vs H Q _ => ∃ (sc : Addr) (xs : List Int) (first many : Int), vs = [.ref sc, .int first, .int many] ∧ SqL K H sc (xs.map V.int) ∧ (∀ b, At.tb b → GX.TabX H b) ∧ 0 ≤ first ∧ 0 ≤ many ∧ many ≤ 1000 ∧
  ∀ q p m a b R fp H', Built At H H' p m a b (lampsOf (mixed (cellOf xs first) 1)) (numsOf (mixed (cellOf xs first) 2)) R fp → R ≠ [] → H q = none → ¬ J fp m R q → H' q = some (.tup [.ref p, .ref m, .ref a, .ref b]) → Q (.ref q) H'
theorem ok_law_built (T : Top K mg) (L : Pl P w K mg base C At) (hL : At.full) (hM : At.more) : Dn P w K mg base "_law_built" 24 ["_law_script", "_law_first", "_law_many"] (spLbuilt K At) := by
  refine T.d__law_built.ok sc_law_built (fun vs H Q E h => ?_) (fun f cdv A outer s H vs Q E hr h => ?_)
  · obtain ⟨sc, xs, first, many, rfl, _⟩ := h
    rfl
  · obtain ⟨sc, xs, first, many, rfl, hsc, htb, f0, m0, m1, q⟩ := h
    have hu := hu_of hr
    refine ⟨_, (pss_cons (ps_set (i := 3) sc_law_built.nd rfl (.inl rfl) (pe_dn (ok_law_lamps T) (hr.mono (by decide)) (by rfl) (pa_cons (pe_dn (ok_law_mixed T) (hr.mono (by decide)) (by rfl) (pa_cons (pe_dn (ok_law_cell T) (hr.mono (by decide)) (by rfl) (pa_cons (pv 0) (pa_cons (pv 1) pa_nil))) (pa_cons pe_int pa_nil))) pa_nil)))
        (pss_cons (ps_set (i := 4) sc_law_built.nd rfl (.inl rfl) (pe_dn (ok_law_numbers T) (hr.mono (by decide)) (by rfl) (pa_cons (pe_dn (ok_law_mixed T) (hr.mono (by decide)) (by rfl) (pa_cons (pe_dn (ok_law_cell T) (hr.mono (by decide)) (by rfl) (pa_cons (pv 0) (pa_cons (pv 1) pa_nil))) (pa_cons pe_int pa_nil))) pa_nil)))
        (pss_cons (ps_set (i := 5) sc_law_built.nd rfl (.inl rfl) (L.new _ _ _ rfl rfl rfl rfl rfl (hr.mono (by decide)) (by rfl)))
        (pss_cons (ps_set (i := 6) sc_law_built.nd rfl (.inl rfl) pe_dnewK)
        (pss_cons (ps_for PassesOwn.never rfl (pi_range1 (by rfl) T.z_range (pa_cons (pv 2) pa_nil)) (pg_name (i := 7) sc_law_built.nd rfl (.inl rfl))
        (pss_cons (ps_set (i := 8) sc_law_built.nd rfl (.inl rfl) (pe_dn (ok_law_mixed T) (hr.mono (by decide)) (by rfl) (pa_cons (pe_dn (ok_law_cell T) (hr.mono (by decide)) (by rfl) (pa_cons (pv 0) (pa_cons (pe_op op_add (pe_op op_add (pv 1) pe_int) (pe_op op_mod (pv 7) pe_int)) pa_nil))) (pa_cons (pe_op op_add pe_int (pv 7)) pa_nil))))
        (pss_one (ps_expr (pe_dn (ok_law_done T L hL hM) (hr.mono (by decide)) (by rfl) (pa_cons (pv 5) (pa_cons (pv 6) (pa_cons (pv 3) (pa_cons (pv 4) (pa_cons (pv 8) pa_nil))))))))))
        (pss_cons (ps_if (pt_cmpR (op_eq0 hu) (pv 6) pe_dnewK (nomark _))
        (pss_one (ps_expr (pe_dn (ok_law_put T L) (hr.mono (by decide)) (by rfl) (pa_cons (pv 5) (pa_cons (pv 6) (pa_cons (pe_ix (r := rIxL K) ix_list (pv 4) pe_int (fun _ _ => rfl)) (pa_cons (pv 2) pa_nil)))))))
        pss_nil)
        (pss_one (ps_ret (pe_tup (pa_cons (pv 5) (pa_cons (pv 6) (pa_cons (pv 3) (pa_cons (pv 4) pa_nil))))))))))))), ?_⟩
    obtain ⟨c, hc⟩ : ∃ c, c = mixed (cellOf xs first) 1 := ⟨_, rfl⟩
    obtain ⟨d, hd⟩ : ∃ d, d = mixed (cellOf xs first) 2 := ⟨_, rfl⟩
    rw [← hc, ← hd] at q
    have c0 : 0 ≤ c := by rw [hc]; exact (mixed_in _ _).1
    refine q_asgL (xs := (lampsOf c).map V.str) (el_callL (ea_cons (ev_callS (z := .int c) (ea_cons (ev_callR (z := .int (cellOf xs first)) (ea_cons (ev_var rfl) (ea_cons (ev_var rfl) ea_nil)) fun H1 e1 => ⟨sc, xs, first, rfl, ex_l e1 hsc, f0, rfl⟩) (ea_cons ev_c ea_nil)) ⟨_, _, rfl, by rw [hc]⟩) ea_nil) fun H1 e1 => ⟨c, c0, rfl, rfl⟩) fun a H1 na e1 ha => ?_
    refine q_asgL (xs := (numsOf d).map V.int) (el_callL (ea_cons (ev_callS (z := .int d) (ea_cons (ev_callR (z := .int (cellOf xs first)) (ea_cons (ev_var rfl) (ea_cons (ev_var rfl) ea_nil)) fun H2 e2 => ⟨sc, xs, first, rfl, ex_l (e1.trans e2) hsc, f0, rfl⟩) (ea_cons ev_c ea_nil)) ⟨_, _, rfl, by rw [hd]⟩) ea_nil) fun H2 e2 => ⟨d, rfl, rfl⟩) fun b H2 nb e2 hb => ?_
    refine ⟨fun x hx => e2 _ _ (e1 _ _ (htb x hx)), lampsOf c, fun l hl => lamps_ok hl, by show (List.map _ _).length < 64; rw [List.length_map]; decide, fun H3 p fp hA new e3 => ?_⟩
    refine q_asgD ed_new fun m H4 nm e4 hm => ?_
    have b4 : Built At H H4 p m a b (lampsOf c) (numsOf d) [] fp := by
      have e03 := e1.trans (e2.trans e3)
      have J0 : ∀ x, J fp m [] x → H2 x = none := fun x hx => by
        rcases hx with z | z | ⟨r, hr, _⟩
        · exact new x z
        · rw [z]; exact fresh_back e3 nm
        · cases hr
      refine ⟨e03.trans e4, ⟨⟨.inl hm, fun r hr => absurd hr List.not_mem_nil, List.nodup_nil, List.nodup_nil, List.nodup_nil, fun r hr => absurd hr List.not_mem_nil, fun r hr => absurd hr List.not_mem_nil⟩, hm, L.ex hA e4, fun x hx z => ?_⟩, e4 _ _ (e3 _ _ (e2 _ _ ha)), fun z => ?_, e4 _ _ (e3 _ _ hb), fun z => ?_, fun k hk => absurd hk List.not_mem_nil, fun x hx => fresh_back (e1.trans e2) (J0 x hx)⟩
      · rcases z with z | ⟨r, hr, _⟩
        · rcases hx with hx | hx
          · obtain ⟨u, hu⟩ := L.known hA hx
            rw [z, nm] at hu
            cases hu
          · have hu := (L.tabs hA hx).1
            rw [z] at hu
            have hu : H3 m = some _ := hu
            rw [nm] at hu
            cases hu
        · cases hr
      · have := J0 a z
        rw [e2 _ _ ha] at this
        cases this
      · have := J0 b z
        rw [hb] at this
        cases this
    refine q_forR1 (ea_cons (ev_var rfl) ea_nil) ⟨m0, by omega⟩ (fun i σ' H' => ∃ y7 y8 R fp, σ' = [some (.ref sc), some (.int first), some (.int many), some (.ref a), some (.ref b), some (.ref p), some (.ref m), y7, y8] ∧ Built At H H' p m a b (lampsOf c) (numsOf d) R fp) (fun H5 e5 => ⟨_, _, [], fp, rfl, b4.mono L e5⟩) (fun i σ' H' hi => ?_) fun σ' H' => ?_
    · rintro ⟨y7, y8, R, fp, rfl, bt⟩
      obtain ⟨mx, hmx⟩ : ∃ mx, mx = mixed (cellOf xs (first + 1 + (i : Int) % 9)) (10 + (i : Int)) := ⟨_, rfl⟩
      refine q_asg (v := .int mx) (ev_callS (ea_cons (ev_callR (z := .int (cellOf xs (first + 1 + (i : Int) % 9))) (ea_cons (ev_var rfl) (ea_cons (ev_op (ev_op (ev_var rfl) ev_c rv_I0) (ev_op (ev_var rfl) ev_c (rv_I (by decide))) rv_I0) ea_nil)) fun H5 e5 => ⟨sc, xs, _, rfl, ex_l (bt.ex.trans e5) hsc, by omega, rfl⟩) (ea_cons (ev_op ev_c (ev_var rfl) rv_I0) ea_nil)) ⟨_, _, rfl, by rw [hmx]⟩) fun H5 e5 => ?_
      have bt5 := bt.mono L e5
      refine (ea_cons (ev_var (i := 5) rfl) (ea_cons (ev_var (i := 6) rfl) (ea_cons (ev_var (i := 3) rfl) (ea_cons (ev_var (i := 4) rfl) (ea_cons (ev_var (i := 8) rfl) ea_nil))))) H5 (Ex.refl H5) (fun vs H1 => spLdone At (vs ++ []) H1 _ E0) fun H6 e6 => ?_
      have bt6 := bt5.mono L e6
      exact ⟨p, m, a, b, lampsOf c, numsOf d, R, fp, mx, rfl, bt6.st, bt6.la, bt6.na, by show (List.map _ _).length = 6; rw [List.length_map]; rfl, bt6.lb, nums_nine d, bt6.inn, fun H' R' fp' s' i' v' => ⟨_, _, R', fp', rfl, bt6.go v' s' i'⟩⟩
    · rintro ⟨y7, y8, R, fp, rfl, bt⟩
      have fin : ∀ {σ : L2.St} {Dx : Ends} {H5 : Hp} {R fp}, Dx.rt = Q → σ[5]? = some (some (.ref p)) → σ[6]? = some (some (.ref m)) → σ[3]? = some (some (.ref a)) → σ[4]? = some (some (.ref b)) → Built At H H5 p m a b (lampsOf c) (numsOf d) R fp → R ≠ [] → tRet (tTup (tCons (tVar 5) (tCons (tVar 6) (tCons (tVar 3) (tCons (tVar 4) tNil))))) Dx σ H5 := fun {σ Dx H5 R fp} hD g5 g6 g3 g4 bt ne => by
        refine s_retU (eu_tup (ea_cons (ev_var g5) (ea_cons (ev_var g6) (ea_cons (ev_var g3) (ea_cons (ev_var g4) ea_nil)))) (by show 4 ≤ 100000; decide)) fun t H6 nt e6 ht => ?_
        rw [hD]
        refine q t p m a b R fp H6 (bt.mono L e6) ne (fresh_back bt.ex nt) (fun z => ?_) ht
        rcases z with z | z
        · obtain ⟨u, hu⟩ := L.known bt.st.pl z
          rw [nt] at hu; cases hu
        · obtain ⟨u, hu⟩ := bt.st.mat.known z
          rw [nt] at hu; cases hu
      refine q_when (et_test (ev_eq0 (ev_var rfl) ed_new bt.st.mdk)) (fun hb H5 e5 => ?_) fun hb H5 e5 => ?_
      · have hR : R = [] := List.map_eq_nil_iff.mp (of_decide_eq_true hb)
        subst hR
        have bt5 := bt.mono L e5
        refine (ea_cons (ev_var (i := 5) rfl) (ea_cons (ev_var (i := 6) rfl) (ea_cons (ev_ixK (v := .int 1) (ev_var (i := 4) rfl) ev_c (.of bt5.lb) (atI_nat (j := 0) rfl)) (ea_cons (ev_var (i := 2) rfl) ea_nil)))) H5 (Ex.refl H5) (fun vs H1 => spLput At (vs ++ []) H1 _ E0) fun H6 e6 => ?_
        have bt6 := bt5.mono L e6
        refine ⟨p, m, lampsOf c, [], fp, 1, many, rfl, bt6.st, List.not_mem_nil, by decide, by decide, by decide, fun H' R' fp' s' ⟨x, eB, xn, _⟩ v' => ?_⟩
        refine fin rfl rfl rfl rfl rfl (bt6.go v' s' ?_) ?_
        · rw [eB]
          intro k hk
          have hk : k ∈ [x.n] := hk
          rw [List.mem_singleton.mp hk, xn]
          exact List.mem_cons_self
        · rintro rfl
          cases eB
      · have ne : R ≠ [] := fun z => by rw [z] at hb; exact absurd hb (by decide)
        exact fin rfl rfl rfl rfl rfl (bt.mono L e5) ne
end
end LW

namespace LW
open PySem PySem.Spec PyProof.Rows L2 Evl HB HS MB HW HM HI PI MC HJ PS PT TX
section
variable {P : Program} {w : World} {K : PySem.W.Frag} {mg : Str → Option Value} {base : Heap} {C : Addr} {At : AtT}
/-! ### _law_text -/
def RText (H : Hp) (vs : List V) (z : V) : Prop := ∃ (m : Addr) (R : List CRow) (ls : List Str), vs = [.ref m] ∧ MAt H m R ∧ Good ls (bk R) ∧ z = .str (textB (bk R))
theorem take_flat {α : Type} (f : α → List Str) {xs : List α} {i : Nat} {c : α} (h : xs[i]? = some c) : (xs.take (i + 1)).flatMap f = (xs.take i).flatMap f ++ f c := by
  rw [List.take_add_one, h, List.flatMap_append]
  simp
theorem ok_law_text (T : Top K mg) : Dn P w K mg base "_law_text" 20 ["_law_model"] (spR RText) := by
  refine T.d__law_text.ok sc_law_text (fun vs H Q E h => ?_) (fun f cdv A outer s H vs Q E hr h => ?_)
  · obtain ⟨z, ⟨m, R, ls, rfl, _⟩, _⟩ := h
    rfl
  · obtain ⟨z, ⟨m, R, ls, rfl, hM, gd, rfl⟩, q⟩ := h
    have hu := hu_of hr
    refine ⟨_, (pss_cons (ps_set (i := 1) sc_law_text.nd rfl (.inl rfl) (pe_lst pa_nil))
        (pss_cons (ps_for PassesOwn.never rfl (pi_list (pe_callB (cr_sortD rfl) (by rfl) T.z_sorted (by decide +kernel) (pa_cons (pv 0) pa_nil))) (pg_name (i := 2) sc_law_text.nd rfl (.inl rfl))
        (pss_cons (ps_asg (pe_dget hu (pv 0) (pv 2) (fun _ _ => rfl)) (pg_unl rfl (pgs_cons (pg_name (i := 3) sc_law_text.nd rfl (.inl rfl)) (pgs_cons (pg_name (i := 4) sc_law_text.nd rfl (.inl rfl)) (pgs_cons (pg_name (i := 5) sc_law_text.nd rfl (.inl rfl)) (pgs_cons (pg_name (i := 6) sc_law_text.nd rfl (.inl rfl)) pgs_nil))))))
        (pss_cons (ps_set (i := 7) sc_law_text.nd rfl (.inl rfl) (pe_op op_cat (pe_lst (pa_cons pe_str (pa_cons (pe_callTy call_str_int (by rfl) T.z_str (by decide +kernel) (pa_cons (pv 2) pa_nil)) (pa_cons (pe_callTy call_str_int (by rfl) T.z_str (by decide +kernel) (pa_cons (pv 3) pa_nil)) (pa_cons (pe_callTy call_str_int (by rfl) T.z_str (by decide +kernel) (pa_cons (pv 4) pa_nil)) pa_nil))))) (pe_op op_rep (pe_lst (pa_cons pe_str pa_nil)) (pe_callTy call_int1 (by rfl) T.z_int (by decide +kernel) (pa_cons (pv 5) pa_nil)))))
        (pss_cons (ps_expr (pe_bm PySem.F.plainAttrs_list PySem.F.slot_list_append PySem.F.type_list_append mt_append (pv 1) (pa_cons (pe_join pe_str (pv 7)) pa_nil)))
        (pss_one (ps_for PassesOwn.never rfl (pi_list (pe_callB (call_sortedD rfl) (by rfl) T.z_sorted (by decide +kernel) (pa_cons (pv 6) pa_nil))) (pg_name (i := 8) sc_law_text.nd rfl (.inl rfl))
        (pss_one (ps_expr (pe_bm PySem.F.plainAttrs_list PySem.F.slot_list_append PySem.F.type_list_append mt_append (pv 1) (pa_cons (pe_op op_add_str (pe_op op_add_str (pv 8) pe_str) (pe_callTy call_str_int (by rfl) T.z_str (by decide +kernel) (pa_cons (pe_dget hu (pv 6) (pv 8) (fun _ _ => rfl)) pa_nil))) pa_nil))))))))))
        (pss_one (ps_ret (pe_join pe_str (pe_lc (own := [("_law_row", 7)]) (g := gName 7) (by rfl) sc_law_text.nd (pi_list (pv 1)) (blkOk_by (own := [("_law_row", 7)]) (N := ns_law_text) (sc := defScope s_law_text) (by decide +kernel)) (fun _ _ _ _ _ => (pg_name (i := 7) sc_law_text.nd rfl (.inl rfl))) (fun _ _ _ _ _ => pts_nil) (fun _ _ _ _ _ => (pe_op op_add_str (pv 7) pe_str)))))))), ?_⟩
    refine q_asgL (xs := []) (el_lst ea_nil (Nat.zero_le _)) fun L H1 nL e1 hL => ?_
    refine q_forNLn (el_sortD (ev_var rfl) (hM.ex e1)) (fun pl i σ' H' => ∃ y2 y3 y4 y5 y6 y7 y8, σ' = [some (.ref m), some (.ref L), y2, y3, y4, y5, y6, y7, y8] ∧ Ex H H' ∧ pl ≠ L ∧ H' pl = some (.lst ((asc (bk R)).map fun c => V.int c.n)) ∧ H' L = some (.lst ((((asc (bk R)).take i).flatMap rowsC).map V.str)))
      (fun pl H2 np e2 h2 => ⟨_, _, _, _, _, _, _, rfl, e1.trans e2, fun z => (by rw [z, hL] at np; cases np), h2, e2 _ _ hL⟩) (fun pl i σ' H' _ ⟨_, _, _, _, _, _, _, _, _, _, h, _⟩ => .of h) (fun pl i x σ' H' hx => ?_) fun pl σ' H' => ?_
    · rintro ⟨y2, y3, y4, y5, y6, y7, y8, rfl, e, ne, hpl, hrows⟩
      rw [List.getElem?_map] at hx
      obtain ⟨c, hc, rfl⟩ := Option.map_eq_some_iff.mp hx
      have hcB : c ∈ bk R := asc_in (List.mem_of_getElem? hc)
      obtain ⟨r, hr0, rfl⟩ := List.mem_map.mp hcB
      have gc := gd.cue _ hcB
      have few := words_few gd hcB
      have rl := rows_len gd i
      dsimp only
      refine ev_row (hM.ex e) hr0 (ev_var rfl) (ev_var rfl) H' (Ex.refl _) _ fun H3 e3 => ⟨r.la, r.items, rfl, .of (((hM.ex (e.trans e3)).row r hr0).1), rfl, _, _, rfl, _, _, rfl, _, _, rfl, _, _, rfl, rfl, ?_⟩
      dsimp only
      refine q_asgL (xs := ([("cue" : Str), sI r.c.n, sI r.c.up, sI r.c.down] ++ if r.c.fr = true then [("fresh" : Str)] else []).map V.str) ?_ fun W H4 nW e4 hW => ?_
      · have := el_catNN (σ := [some (.ref m), some (.ref L), some (.int r.c.n), some (.int r.c.up), some (.int r.c.down), some (.bl r.c.fr), some (.ref r.wa), y7, y8]) (H := H3) (xs := [.str ("cue" : Str), .str (sI r.c.n), .str (sI r.c.up), .str (sI r.c.down)]) (zs := if r.c.fr = true then [V.str ("fresh" : Str)] else [])
          (el_lst (ea_cons (ev_c (v := .str ("cue" : Str))) (ea_cons (ev_strI (ev_var (i := 2) rfl) (by have := gc.n1; omega) gc.n2) (ea_cons (ev_strI (ev_var (i := 3) rfl) gc.u1 (by have := gc.u2; omega)) (ea_cons (ev_strI (ev_var (i := 4) rfl) gc.d1 (by have := gc.d2; omega)) ea_nil)))) (by show 4 ≤ 100000; decide)) (el_rep1 (el_lst (ea_cons (ev_c (v := .str ("fresh" : Str))) ea_nil) (by show 1 ≤ 100000; decide)) (ev_int1 (ev_var (i := 5) rfl))) (by show 4 + _ ≤ _; split <;> decide)
        rw [show ([("cue" : Str), sI r.c.n, sI r.c.up, sI r.c.down] ++ if r.c.fr = true then [("fresh" : Str)] else []).map V.str = [.str ("cue" : Str), .str (sI r.c.n), .str (sI r.c.up), .str (sI r.c.down)] ++ if r.c.fr = true then [V.str ("fresh" : Str)] else [] by
          rw [List.map_append]
          split <;> rfl]
        exact this
      have neW : W ≠ L := fun z => by rw [z, e3 _ _ hrows] at nW; cases nW
      have hL4 := e4 _ _ (e3 _ _ hrows)
      refine q_app (v := .str (headS r.c)) hL4 (ev_var rfl) (ev_is (ev_joinV ev_c (ev_var rfl) (.of hW) ?_) (by rw [head_law])) (by rw [List.length_map]; omega) fun H5 e5 => ?_
      · have h1 := sI_len (i := r.c.n) (by have := gc.n1; omega) gc.n2
        have h2 := sI_len gc.u1 (by have := gc.u2; omega)
        have h3 := sI_len gc.d1 (by have := gc.d2; omega)
        have l1 : ("cue" : Str).length = 3 := by decide
        have l2 : (" " : Str).length = 1 := by decide
        have l3 : ("fresh" : Str).length = 5 := by decide
        cases r.c.fr <;> simp [l1, l2, l3] <;> omega
      have eH5 := e.trans (e3.trans (e4.trans e5))
      obtain ⟨rows, hrw⟩ : ∃ rows, rows = ((asc (bk R)).take i).flatMap rowsC := ⟨_, rfl⟩
      rw [← hrw] at hrows rl ⊢
      have eH6 : Ex H (upd H5 L (.lst (rows.map V.str ++ [.str (headS r.c)]))) := Ex.mut eH5 nL
      have hw6 : (upd H5 L (.lst (rows.map V.str ++ [.str (headS r.c)]))) r.wa = some (.dK (wkv r.c.ws)) := ((hM.ex eH6).row r hr0).2
      have hpl6 : (upd H5 L (.lst (rows.map V.str ++ [.str (headS r.c)]))) pl = some (.lst ((asc (bk R)).map fun c => V.int c.n)) := by rw [upd_ne ne]; exact e5 _ _ (e4 _ _ (e3 _ _ hpl))
      have hL6 : (upd H5 L (.lst (rows.map V.str ++ [.str (headS r.c)]))) L = some (.lst ((rows ++ headS r.c :: (((sortW r.c.ws).take 0).map rowS)).map V.str)) := by
        rw [upd_same, List.map_append]
        rfl
      generalize upd H5 L (.lst (rows.map V.str ++ [.str (headS r.c)])) = H6 at eH6 hw6 hpl6 hL6
      refine s_forNLn (xs := (sortW r.c.ws).map fun x => V.str x.1) (by rw [← sortW_keys]; exact el_sortW (ev_var rfl) (.inl hw6) few) (fun ql j σ' H' => ∃ y8, σ' = [some (.ref m), some (.ref L), some (.int r.c.n), some (.int r.c.up), some (.int r.c.down), some (.bl r.c.fr), some (.ref r.wa), some (.ref W), y8] ∧ Ex H H' ∧ ql ≠ L ∧ H' ql = some (.lst ((sortW r.c.ws).map fun x => V.str x.1)) ∧ H' pl = some (.lst ((asc (bk R)).map fun c => V.int c.n)) ∧ H' L = some (.lst ((rows ++ headS r.c :: (((sortW r.c.ws).take j).map rowS)).map V.str)))
        (fun ql H7 nq e7 h7 => ⟨_, rfl, eH6.trans e7, fun z => (by rw [z, hL6] at nq; cases nq), h7, e7 _ _ hpl6, e7 _ _ hL6⟩) (fun ql j σ' H' _ ⟨_, _, _, _, h, _⟩ => .of h) (fun ql j x σ' H' hx => ?_) fun ql σ' H' => ?_
      · rintro ⟨y8, rfl, e7, neq, hql, hpl7, hL7⟩
        rw [List.getElem?_map] at hx
        obtain ⟨x, hx2, rfl⟩ := Option.map_eq_some_iff.mp hx
        have hxm := List.mem_of_getElem? hx2
        obtain ⟨wl, wok, v1, v2⟩ := word_of gd hcB hxm
        have jl : j < (sortW r.c.ws).length := (List.getElem?_eq_some_iff.mp hx2).1
        rw [sortW_len] at jl
        have k1 := sI_len v1 (by omega)
        have k2 := wok.len
        have l2 : (" " : Str).length = 1 := by decide
        refine s_app (v := .str (rowS x)) hL7 (ev_var rfl) (ev_is (ev_op (ev_op (ev_var rfl) ev_c (rv_addS (by omega))) (ev_strI (ev_dget (k := .inr x.1) (ev_var rfl) (ev_var rfl) (.inl (((hM.ex e7).row r hr0).2)) (by rw [val_wkv, wl]; rfl)) v1 (by omega)) (rv_addS (by rw [len_app]; omega))) (by rw [row_law])) (by
          rw [List.length_map, List.length_append, List.length_cons, List.length_map, List.length_take]
          omega) fun H8 e8 => ?_
        refine ⟨_, rfl, Ex.mut (e7.trans e8) nL, neq, by rw [upd_ne neq]; exact e8 _ _ hql, by rw [upd_ne ne]; exact e8 _ _ hpl7, ?_⟩
        rw [upd_same, List.take_add_one, hx2]
        simp
      · rintro ⟨y8, rfl, e7, neq, hql, hpl7, hL7⟩
        refine ⟨_, _, _, _, _, _, _, rfl, e7, ne, hpl7, ?_⟩
        rw [take_flat rowsC hc, ← hrw, hL7, List.length_map, List.take_length]
        rfl
    · rintro ⟨y2, y3, y4, y5, y6, y7, y8, rfl, e, ne, hpl, hrows⟩
      rw [List.length_map, List.take_length] at hrows
      have tl := textRows_len gd
      refine s_ret (ev_joinN (ys := (textRows (bk R)).map nl) ev_c (by
        rw [List.map_map]
        exact el_mapL (K := K) V.str (V.str ∘ nl) (ev_var rfl) (.of hrows) (by omega) (fun _ => rfl) fun x H1 e1 hx => ev_op (ev_var rfl) ev_c (rv_addS (by
          have := row_len gd hx
          have l2 : ("\n" : Str).length = 1 := by decide
          omega))) (text_len gd)) fun H2 e2 => q H2 (e.trans e2)
end
end LW

namespace LW
open PySem PySem.Spec PyProof.Rows L2 Evl HB HS MB HW HM HI PI MC HJ HG PS PT MD GX MX RH DC RP RQ RM RL RS RT RX RY RZ RA SP SQ TX RD RK RF RG RN RO
section
variable {P : Program} {w : World} {K : PySem.W.Frag} {mg : Str → Option Value} {base : Heap} {eNoCue eTaken eTooMany eNoLamp eNoLevel eNoTime eNoText cCue cPlay cReader eCueError : Addr} {At : AtT}
/-! ### _law_class -/
def truths (i : Nat) : List V := (List.range 7).map fun k => V.bl (decide (i = k))
theorem truths_is {i : Nat} (h : i < 7) : ((truths i).countP fun z => eqV z (.bl true)) = 1 ∧ (truths i)[i]? = some (.bl true) ∧ ∀ (m : Nat) (z' : V), m < i → (truths i)[m]? = some z' → eqV z' (.bl true) = false := by
  have : i = 0 ∨ i = 1 ∨ i = 2 ∨ i = 3 ∨ i = 4 ∨ i = 5 ∨ i = 6 := by omega
  rcases this with rfl | rfl | rfl | rfl | rfl | rfl | rfl <;> refine ⟨by decide +kernel, rfl, fun m z' hm hz => ?_⟩ <;>
    (have : m = 0 ∨ m = 1 ∨ m = 2 ∨ m = 3 ∨ m = 4 ∨ m = 5 := by omega
     rcases this with rfl | rfl | rfl | rfl | rfl | rfl <;> first | omega | (cases hz; rfl))
theorem kinds_at {i : Nat} {s : Str} (h : kindWords[i]? = some s) : atI (kindWords.map V.str) (i : Int) = some (.str s) := by
  refine atI_nat ?_
  rw [List.getElem?_map, h]
  rfl
abbrev NKd (K : PySem.W.Frag) (eCueError eNoCue eTaken eTooMany eNoLamp eNoLevel eNoTime : Addr) : Prop := KindF K eNoText 6 eNoCue eTaken eTooMany eNoLamp eNoLevel eNoTime eNoText eCueError
def RClass (K : PySem.W.Frag) (eNoText : Addr) (H : Hp) (vs : List V) (z : V) : Prop := ∃ (a dd : Addr) (fs : List (Str × V)), vs = [.ref a] ∧ H a = some (ExV (.ref eNoText) (some dd) a) ∧ H dd = some (.xd fs) ∧ z = .str "text"
theorem ok_law_class (T : Top K mg) (G : Prg K mg eNoCue eTaken eTooMany eNoLamp eNoLevel eNoTime eNoText cCue cPlay cReader) (N : NoTx K mg eCueError eNoText) (EX : Exs K mg eCueError eNoCue eTaken eTooMany eNoLamp eNoLevel eNoTime) (NK : KindF K eNoText 6 eNoCue eTaken eTooMany eNoLamp eNoLevel eNoTime eNoText eCueError) : Dn P w K mg base "_law_class" 1 ["_law_e"] (spR (RClass K eNoText)) := by
  refine T.d__law_class.ok sc_law_class (fun vs H Q E h => ?_) (fun f cdv A outer s H vs Q E hr h => ?_)
  · obtain ⟨z, ⟨a, dd, fs, rfl, _⟩, _⟩ := h
    rfl
  · obtain ⟨z, ⟨a, dd, fs, rfl, ha, hd, rfl⟩, q⟩ := h
    have hu := hu_of hr
    have hu64 := hr.units
    refine ⟨_, (pss_cons (ps_set (i := 1) sc_law_class.nd rfl (.inl rfl) (pe_lst (pa_cons (pe_callB (r := RK.rIsY K) RK.call_isY (by rfl) T.z_isinstance (by decide +kernel) (pa_cons (pv 0) (pa_cons (pe_glob (v := .ref eNoCue) (by rfl) G.e_NoCue.gP rfl) pa_nil))) (pa_cons (pe_callB (r := RK.rIsY K) RK.call_isY (by rfl) T.z_isinstance (by decide +kernel) (pa_cons (pv 0) (pa_cons (pe_glob (v := .ref eTaken) (by rfl) G.e_Taken.gP rfl) pa_nil))) (pa_cons (pe_callB (r := RK.rIsY K) RK.call_isY (by rfl) T.z_isinstance (by decide +kernel) (pa_cons (pv 0) (pa_cons (pe_glob (v := .ref eTooMany) (by rfl) G.e_TooMany.gP rfl) pa_nil))) (pa_cons (pe_callB (r := RK.rIsY K) RK.call_isY (by rfl) T.z_isinstance (by decide +kernel) (pa_cons (pv 0) (pa_cons (pe_glob (v := .ref eNoLamp) (by rfl) G.e_NoLamp.gP rfl) pa_nil))) pa_nil))))))
        (pss_cons (ps_set (i := 1) sc_law_class.nd rfl (.inl rfl) (pe_op op_cat (pv 1) (pe_lst (pa_cons (pe_callB (r := RK.rIsY K) RK.call_isY (by rfl) T.z_isinstance (by decide +kernel) (pa_cons (pv 0) (pa_cons (pe_glob (v := .ref eNoLevel) (by rfl) G.e_NoLevel.gP rfl) pa_nil))) (pa_cons (pe_callB (r := RK.rIsY K) RK.call_isY (by rfl) T.z_isinstance (by decide +kernel) (pa_cons (pv 0) (pa_cons (pe_glob (v := .ref eNoTime) (by rfl) G.e_NoTime.gP rfl) pa_nil))) (pa_cons (pe_callB (r := RK.rIsY K) RK.call_isY (by rfl) T.z_isinstance (by decide +kernel) (pa_cons (pv 0) (pa_cons (pe_glob (v := .ref eNoText) (by rfl) N.g rfl) pa_nil))) pa_nil))))))
        (pss_cons (ps_if (PW.pt (pw_or (pt_cmpR op_ne (pe_bm PySem.F.plainAttrs_list PySem.F.slot_list_count PySem.F.type_list_count mt_countF (pv 1) (pa_cons pe_bl pa_nil)) pe_int (nomark _)) (pw_or1 (pt_not (pt_val (pe_callB (r := RK.rIsY K) RK.call_isY (by rfl) T.z_isinstance (by decide +kernel) (pa_cons (pv 0) (pa_cons (pe_ty (T := "ValueError") T.z_ValueError (by rfl) (by decide +kernel)) pa_nil))))))))
        (pss_one (ps_ret pe_str))
        pss_nil)
        (pss_one (ps_ret (pe_ix (r := rIxL K) ix_list (pe_lst (pa_cons pe_str (pa_cons pe_str (pa_cons pe_str (pa_cons pe_str (pa_cons pe_str (pa_cons pe_str (pa_cons pe_str pa_nil)))))))) (pe_bm PySem.F.plainAttrs_list PySem.F.slot_list_index PySem.F.type_list_index mt_index (pv 1) (pa_cons pe_bl pa_nil)) (fun _ _ => rfl))))))), ?_⟩
    have kf := NK
    have rr : ∀ {e : Addr}, ∀ u, RelV (.ref e) u → u = .ref e := fun u h => h
    obtain ⟨t1, t2, t3⟩ := truths_is (i := 6) (by decide)
    have fl : (truths 6).all flatV = true := rfl
    refine q_asgL (el_lst (ea_cons (ev_isY (ev_var rfl) ev_c ha hd kf.c rr kf.k0) (ea_cons (ev_isY (ev_var rfl) ev_c ha hd kf.c rr kf.k1) (ea_cons (ev_isY (ev_var rfl) ev_c ha hd kf.c rr kf.k2) (ea_cons (ev_isY (ev_var rfl) ev_c ha hd kf.c rr kf.k3) ea_nil)))) (by show 4 ≤ 100000; decide)) fun p H1 np e1 hp => ?_
    have ha1 := e1 _ _ ha
    have hd1 := e1 _ _ hd
    refine q_asgL (xs := truths 6) (el_cat (ev_var rfl) hp (el_lst (ea_cons (ev_isY (ev_var rfl) ev_c ha1 hd1 kf.c rr kf.k4) (ea_cons (ev_isY (ev_var rfl) ev_c ha1 hd1 kf.c rr kf.k5) (ea_cons (ev_isY (ev_var rfl) ev_c ha1 hd1 kf.c rr kf.k6) ea_nil))) (by show 3 ≤ 100000; decide)) (by show 7 ≤ 100000; decide)) fun l H2 nl e2 hl => ?_
    have ha2 := e2 _ _ ha1
    have hd2 := e2 _ _ hd1
    refine q_when (b := false) (et_is (a := !decide (V.int ((((truths 6).countP fun z => eqV z (.bl true)) : Nat) : Int) = .int 1) || !true) (et_or (et_test (ev_op (ev_countF (ev_var rfl) ev_c hl rfl fl) ev_c (rv_ne rfl))) fun _ => et_not (et_test (ev_isY (cv := .type "ValueError") (ev_var rfl) ev_c ha2 hd2 kf.c (fun u h => h) kf.v))) (by rw [t1]; rfl)) (fun hb => absurd hb (by decide)) fun _ H3 e3 => ?_
    exact s_ret (ev_ixN (xs := kindWords.map V.str) (el_lst (ea_cons ev_c (ea_cons ev_c (ea_cons ev_c (ea_cons ev_c (ea_cons ev_c (ea_cons ev_c (ea_cons ev_c ea_nil))))))) (by show 7 ≤ 100000; decide)) (ev_indexF (ev_var rfl) ev_c (.of (e3 _ _ hl)) rfl fl t2 rfl t3) (kinds_at rfl)) fun H4 e4 => q.go (e1.trans (e2.trans (e3.trans e4)))
/-! ### _law_number_in -/
def Wok (w : Str) : Prop := Asc w ∧ w.length ≤ 1000000
def RNumIn (H : Hp) (vs : List V) (z : V) : Prop := ∃ x : Str, vs = [.str x] ∧ Wok x ∧ z = .int (numW x)
theorem ok_law_number_in (T : Top K mg) : Dn P w K mg base "_law_number_in" 1 ["_law_word"] (spR RNumIn) := by
  refine T.d__law_number_in.ok sc_law_number_in (fun vs H Q E h => ?_) (fun f cdv A outer s H vs Q E hr h => ?_)
  · obtain ⟨z, ⟨x, rfl, _⟩, _⟩ := h
    rfl
  · obtain ⟨z, ⟨x, rfl, ⟨asc, hz⟩, rfl⟩, q⟩ := h
    have hu := hu_of hr
    have hu64 := hr.units
    refine ⟨_, (pss_cons (ps_if (PW.pt (pw_or (pt_cmpR op_eq (pv 0) pe_str (nomark _)) (pw_or (pt_cmpR op_gt (pe_callB call_len_str (by rfl) T.z_len PySem.boot_len (pa_cons (pv 0) pa_nil)) pe_int (nomark _)) (pw_or1 (PW.pt (pw_and (pt_cmpR op_eq (pe_ix ix_str (pv 0) pe_int (fun _ _ => rfl)) pe_str (nomark _)) (pw_and1 (pt_cmpR op_ne (pv 0) pe_str (nomark _)))))))))
        (pss_one (ps_ret (pe_un un_neg pe_int)))
        pss_nil)
        (pss_cons (ps_if (pt_cmpR (op_neD hu64) (pe_lc (own := [("_law_sign", 1)]) (g := gName 1) (by rfl) sc_law_number_in.nd (pi_str (pv 0)) (blkOk_by (own := [("_law_sign", 1)]) (N := ns_law_number_in) (sc := defScope s_law_number_in) (by decide +kernel)) (fun _ _ _ _ _ => (pg_name (i := 1) sc_law_number_in.nd rfl (.inl rfl))) (fun _ _ _ _ _ => (pts_one (pt_cmpR op_notIn_sign (pv 1) pe_str rfl))) (fun _ _ _ _ _ => (pv 1))) (pe_lst pa_nil) (nomark _))
        (pss_one (ps_ret (pe_un un_neg pe_int)))
        pss_nil)
        (pss_one (ps_ret (pe_callTy call_int_str (by rfl) T.z_int (by decide +kernel) (pa_cons (pv 0) pa_nil)))))), ?_⟩
    have el : (x.length : Int) = (x.cps.toList.length : Int) := by rw [TL.len_tl]
    have hn : numW x = if (decide (x.cps.toList.length < 1) || decide (6 < x.cps.toList.length)) = true then -1 else if x.cps.toList.all isFig = false then -1 else if x.cps.toList.head? = some 48 ∧ 1 < x.cps.toList.length then -1 else ((NumText.digitsVal x.cps.toList : Nat) : Int) := rfl
    have hzs : x.length ≤ sizeLine := Nat.le_trans hz (by decide)
    cases hx : x.cps.toList with
    | nil =>
      have ex : x = "" := TL.ext_tl (by rw [show TL.tl x = x.cps.toList from rfl, hx]; rfl)
      have z : numW x = -1 := by rw [hn, hx]; rfl
      rw [z] at q
      refine q_when (b := true) (et_is (a := decide (V.str x = V.str "") || true) (et_or (et_test (ev_op (ev_var rfl) ev_c (rv_eq rfl))) fun h => absurd (decide_eq_true (congrArg V.str ex)) (by rw [h]; decide)) (by rw [Bool.or_true])) (fun _ H1 e1 => s_ret (ev_un ev_c ru_neg) fun H2 e2 => ?_) fun hb => absurd hb (by decide)
      exact q.go (e1.trans e2)
    | cons d r =>
      have ei : ∀ {H2 : Hp}, Ev (tOp rIxS (tVar 0) (tC (.int 0))) [some (.str x), none] H2 (.str ⟨#[d]⟩) := fun {H2} => ev_op (ev_var rfl) ev_c (fun H1 _ _ q => ⟨x, 0, d, rfl, rfl, hzs, by rw [hx]; exact atI_nat (j := 0) rfl, q H1 (Ex.refl H1)⟩)
      have ne : ¬ V.str x = V.str "" := fun h => by
        have h := V.str.inj h
        rw [h] at hx
        cases hx
      have one : decide (V.str x = V.str "0") = decide (x.cps.toList = [48]) := decide_eq_decide.mpr ⟨fun h => by rw [V.str.inj h]; rfl, fun h => by rw [show x = "0" from TL.ext_tl h]⟩
      have hd0 : decide (V.str (⟨#[d]⟩ : Str) = V.str "0") = decide (d = 48) := decide_eq_decide.mpr ⟨fun h => by
        have k3 : ([d] : List Nat) = [48] := congrArg (fun s : Str => s.cps.toList) (V.str.inj h)
        exact (List.cons.inj k3).1, fun h => by rw [h]; rfl⟩
      refine q_when (b := false || (decide ((6 : Int) < x.length) || (decide (d = 48) && !decide (x.cps.toList = [48])))) (et_or (et_is (et_test (ev_op (ev_var rfl) ev_c (rv_eq rfl))) (decide_eq_false ne)) fun _ => et_or (et_test (ev_op (ev_lenS (ev_var rfl) hzs) ev_c rv_I0)) fun _ => et_and (et_is (et_test (ev_op ei ev_c (rv_eq rfl))) hd0) fun _ => et_is (et_test (ev_op (ev_var rfl) ev_c (rv_ne rfl))) (by rw [one])) (fun hb H1 e1 => s_ret (ev_un ev_c ru_neg) fun H2 e2 => ?_) fun hb H1 e1 => ?_
      · have z : numW x = -1 := by
          rw [Bool.false_or] at hb
          rw [hn]
          by_cases h6 : 6 < x.cps.toList.length
          · rw [if_pos (by rw [decide_eq_true h6, Bool.or_true])]
          · rw [el, decide_eq_false (by omega), Bool.false_or, Bool.and_eq_true, decide_eq_true_iff, Bool.not_eq_true', decide_eq_false_iff_not] at hb
            split
            · rfl
            · split
              · rfl
              · rw [if_pos]
                refine ⟨by rw [hx, hb.1]; rfl, ?_⟩
                have h2 := hb.2
                rw [hx, hb.1] at h2
                rw [hx]
                cases r with
                | nil => exact absurd rfl h2
                | cons a b => show 1 < b.length + 1 + 1; omega
        rw [z] at q
        exact q.go (e1.trans e2)
      rw [Bool.false_or, Bool.or_eq_false_iff, el, decide_eq_false_iff_not] at hb
      have h6 : ¬ 6 < x.cps.toList.length := by omega
      have h0 : ¬ (x.cps.toList.head? = some 48 ∧ 1 < x.cps.toList.length) := by
        rintro ⟨a, b⟩
        rw [hx] at a b hb
        have a : d = 48 := Option.some.inj a
        rw [decide_eq_true a, Bool.true_and, Bool.not_eq_false', decide_eq_true_iff] at hb
        rw [hb.2] at b
        exact absurd b (by decide)
      rw [if_neg (by rw [decide_eq_false (p := x.cps.toList.length < 1) (by rw [hx]; show ¬ r.length + 1 < 1; omega), decide_eq_false h6]; decide), if_neg h0] at hn
      refine q_when (et_is (et_test (ev_neStr0 (K := K) (el_oth isFig (ev_var rfl) (by rw [TL.len_tl]; show x.cps.toList.length ≤ _; omega) (fun _ => rfl) (fun c H3 e3 => et_is (et_test (ev_op (ev_var rfl) ev_c rv_niS)) (by rw [figs_mem])) fun c H3 e3 => ev_var rfl) (oth_ok asc))) (by rw [oth_nil])) (fun hb H2 e2 => s_ret (ev_un ev_c ru_neg) fun H3 e3 => ?_) fun hb H2 e2 => ?_
      · rw [Bool.not_eq_true'] at hb
        rw [if_pos hb] at hn
        rw [hn] at q
        exact q.go (e1.trans (e2.trans e3))
      · rw [Bool.not_eq_false'] at hb
        rw [if_neg (by rw [hb]; decide)] at hn
        rw [hn] at q
        refine s_ret (ev_cb (ea_cons (ev_var rfl) ea_nil) fun H4 e4 Q q4 => ⟨x, _, rfl, intText_digits (fig_digits hb) (by rw [hx]; simp) (by rw [TL.len_tl]; show x.cps.toList.length ≤ _; omega), by rw [TL.len_tl]; show x.cps.toList.length ≤ _; omega, q4 H4 (Ex.refl H4)⟩) fun H4 e4 => q.go (e1.trans (e2.trans e4))
end
end LW

namespace LW
open PySem PySem.Spec PyProof.Rows L2 Evl HB HS MB HW HM HI PI MC HJ HG PS PT MD GX MX RH DC RP RQ RM RL RS RT RX RY RZ RA SP SQ TX RD RK RF RG RN RO
section
variable {P : Program} {w : World} {K : PySem.W.Frag} {mg : Str → Option Value} {base : Heap}
/-! a model read: what a row leaves -/
structure Mdl (H : Hp) (m : Addr) (R : List CRow) (s : RSt) : Prop where
  mat : MAt H m R
  dk : H m = some (.dK (mkv R))
  bk : bk R = s.B
  inv : RInv s
theorem Mdl.ex {H H' : Hp} {m : Addr} {R : List CRow} {s : RSt} (h : Mdl H m R s) (e : Ex H H') : Mdl H' m R s := ⟨h.mat.ex e, e _ _ h.dk, h.bk, h.inv⟩
def Read1 (m : Addr) (R : List CRow) (o : Option RSt) (H : Hp) (Q : VK) : Prop :=
  (o = none → ∀ H', Ex H H' → Q (.bl false) H') ∧ ∀ s', o = some s' → ∀ H' R', Mdl H' m R' s' → Mv (MF m R) H (MF m R') H' → Q (.bl true) H'
theorem none_cue {s : RSt} {n u d : Int} {fr : Bool} (h : ¬ CueOk s n u d) : takeCue s n u d fr = none := by
  cases q : takeCue s n u d fr with
  | none => rfl
  | some s' => exact absurd (takeCue_yes q).1 h
theorem none_word {s : RSt} {l : Str} {v : Int} (i : RInv s) (h : ¬ WordOk s l v) : takeWord s l v = none := by
  cases q : takeWord s l v with
  | none => rfl
  | some s' => exact absurd (takeWord_yes i q).1 h
theorem Mdl.len {H : Hp} {m : Addr} {R : List CRow} {s : RSt} (h : Mdl H m R s) : (mkv R).length = s.B.length := by
  rw [← h.bk, show (mkv R).length = R.length from List.length_map _, show (HW.bk R).length = R.length from List.length_map _]
theorem Mdl.keys {H : Hp} {m : Addr} {R : List CRow} {s : RSt} (h : Mdl H m R s) : (mkv R).map (·.1) = (s.B.map (·.n)).map Sum.inl := by
  rw [keys_mkv, h.bk]
/-! ### _law_cue_in -/
def spCueIn : Sp := fun vs H Q _ => ∃ (wl m : Addr) (b c d : Str) (ex : List Str) (R : List CRow) (s : RSt), vs = [.ref wl, .ref m] ∧ H wl = some (.lst ((("cue" : Str) :: b :: c :: d :: ex).map V.str)) ∧ (ex = [] ∨ ∃ e, ex = [e]) ∧ (∀ x ∈ [b, c, d], Wok x) ∧ Mdl H m R s ∧ Read1 m R (takeWs s (("cue" : Str) :: b :: c :: d :: ex)) H Q
theorem take_cue {s : RSt} {b c d : Str} {ex : List Str} (h : ex = [] ∨ ∃ e, ex = [e]) : takeWs s (("cue" : Str) :: b :: c :: d :: ex) = if (decide (ex ≠ []) && !decide (ex.headD Str.empty = "fresh")) = true then none else takeCue s (numW b) (numW c) (numW d) (decide (ex ≠ [])) := by
  rcases h with rfl | ⟨e, rfl⟩
  · rfl
  · show (if ("cue" : Str) = "cue" ∧ e = "fresh" then takeCue s (numW b) (numW c) (numW d) true else none) = _
    by_cases q : e = "fresh"
    · rw [if_pos ⟨rfl, q⟩, if_neg]
      · rfl
      · show ¬ ((true && !decide (e = "fresh")) = true)
        rw [decide_eq_true q]; decide
    · rw [if_neg (fun z => q z.2), if_pos]
      show (true && !decide (e = "fresh")) = true
      rw [decide_eq_false q]; rfl
theorem ok_law_cue_in (T : Top K mg) : Dn P w K mg base "_law_cue_in" 2 ["_law_words", "_law_model"] spCueIn := by
  refine T.d__law_cue_in.ok sc_law_cue_in (fun vs H Q E h => ?_) (fun f cdv A outer s H vs Q E hr h => ?_)
  · obtain ⟨wl, m, b, c, d, ex, R, s, rfl, _⟩ := h
    rfl
  · obtain ⟨wl, m, b, c, d, ex, R, st, rfl, hwl, hex, hok, hm, q0, q1⟩ := h
    have hu := hu_of hr
    have hu64 := hr.units
    refine ⟨_, (pss_cons (ps_setLc (i := 2) (own := [("_law_word", 3)]) (g := gName 3) (by rfl) sc_law_cue_in.nd rfl rfl (sw_true rfl rfl rfl (by decide +kernel)) (pi_list (pe_slice sl_list (pv 0) (po_some pe_int) (po_some pe_int))) (blkOk_by (own := [("_law_word", 3)]) (N := ns_law_cue_in) (sc := defScope s_law_cue_in) (by decide +kernel)) (fun _ _ _ _ _ => (pg_name (i := 3) sc_law_cue_in.nd rfl (.inl rfl))) (fun _ _ _ _ _ => pts_nil) (fun _ _ _ _ _ => (pe_dn (ok_law_number_in T) (hr.mono (by decide)) (by rfl) (pa_cons (pv 3) pa_nil))))
        (pss_cons (ps_if (PW.pt (pw_or (PW.pt (pw_and (pt_cmpR op_eq (pe_callB call_len_seq (by rfl) T.z_len PySem.boot_len (pa_cons (pv 0) pa_nil)) pe_int (nomark _)) (pw_and1 (pt_cmpR op_ne (pe_ix (r := rIxL K) ix_list (pv 0) pe_int (fun _ _ => rfl)) pe_str (nomark _))))) (pw_or1 (pt_cmpR op_ge (pe_callB call_lenD (by rfl) T.z_len PySem.boot_len (pa_cons (pv 1) pa_nil)) pe_int (nomark _)))))
        (pss_one (ps_ret pe_bl))
        pss_nil)
        (pss_cons (ps_if (PW.pt (pw_or (pt_not (pt_cmpR op_le pe_int (pe_ix (r := rIxL K) ix_list (pv 2) pe_int (fun _ _ => rfl)) (nomark _))) (pw_or1 (pt_cmpR op_ge (pe_callB (RN.cr_maxL rfl) (by rfl) T.z_max (by decide +kernel) (pa_cons (pe_op op_cat (pe_lst (pa_cons pe_int pa_nil)) (pe_callTy (call_listD rfl) (by rfl) T.z_list (by decide +kernel) (pa_cons (pv 1) pa_nil))) pa_nil)) (pe_ix (r := rIxL K) ix_list (pv 2) pe_int (fun _ _ => rfl)) (nomark _)))))
        (pss_one (ps_ret pe_bl))
        pss_nil)
        (pss_cons (ps_if (PW.pt (pw_or (pt_not (pt_chain op_le op_le pe_int (pe_ix (r := rIxL K) ix_list (pv 2) pe_int (fun _ _ => rfl)) pe_int)) (pw_or1 (pt_not (pt_chain op_le op_le pe_int (pe_ix (r := rIxL K) ix_list (pv 2) pe_int (fun _ _ => rfl)) pe_int)))))
        (pss_one (ps_ret pe_bl))
        pss_nil)
        (pss_cons (ps_dput hu (pv 1) (pe_ix (r := rIxL K) ix_list (pv 2) pe_int (fun _ _ => rfl)) (pe_lst (pa_cons (pe_ix (r := rIxL K) ix_list (pv 2) pe_int (fun _ _ => rfl)) (pa_cons (pe_ix (r := rIxL K) ix_list (pv 2) pe_int (fun _ _ => rfl)) (pa_cons (pe_cmpR op_eq (pe_callB call_len_seq (by rfl) T.z_len PySem.boot_len (pa_cons (pv 0) pa_nil)) pe_int (nomark _)) (pa_cons pe_dnewK pa_nil))))) rfl)
        (pss_one (ps_ret pe_bl))))))), ?_⟩
    rw [take_cue hex] at q0 q1
    obtain ⟨five, hfive⟩ : ∃ five, five = decide (ex ≠ []) := ⟨_, rfl⟩
    obtain ⟨bad, hbad⟩ : ∃ bad, bad = !decide (ex.headD Str.empty = "fresh") := ⟨_, rfl⟩
    rw [← hfive, ← hbad] at q0 q1
    have h5 : ((("cue" : Str) :: b :: c :: d :: ex).map V.str).length = if five = true then 5 else 4 := by
      rcases hex with rfl | ⟨e, rfl⟩ <;> rw [hfive] <;> rfl
    have lenV : ∀ {H1 : Hp} {σ : L2.St}, Ex H H1 → σ[0]? = some (some (.ref wl)) → Ev _ σ H1 (.bl five) := fun {H1 σ} e g => ev_is (ev_op (ev_len (K := K) (ev_var (i := 0) g) (.of (e _ _ hwl))) (ev_c (v := .int 5)) (rv_eq rfl)) (by rw [h5]; cases five <;> rfl)
    refine q_asgL (xs := ([b, c, d].map fun x => V.int (numW x))) (el_mapN (xs := [b, c, d]) V.str (fun x => V.int (numW x)) (el_sl (xs := (("cue" : Str) :: b :: c :: d :: ex).map V.str) (lo := some 1) (hi := some 4) (ev_var rfl) (eo_some ev_c) (eo_some ev_c) (.of hwl)) (by show 3 ≤ 40000; decide) (fun _ => rfl) fun x H1 e1 hx => ev_callR (ea_cons (ev_var rfl) ea_nil) fun H2 e2 => ⟨x, rfl, hok x hx, rfl⟩) fun nl H1 nnl e1 hnl => ?_
    have m1 := hm.ex e1
    have at4 : five = true → ((("cue" : Str) :: b :: c :: d :: ex).map V.str)[4]? = some (V.str (ex.headD Str.empty)) := fun h => by
      rcases hex with rfl | ⟨e, rfl⟩
      · rw [hfive] at h; exact absurd h (by decide)
      · rfl
    have kl := hm.len
    refine q_when (b := (five && bad) || decide (100 ≤ st.B.length)) (et_or (et_and (et_test (lenV e1 rfl)) fun h => et_is (et_test (ev_op (ev_ixK (K := K) (v := .str (ex.headD Str.empty)) (ev_var rfl) ev_c (.of (e1 _ _ hwl)) (atI_nat (at4 h))) ev_c (rv_ne rfl))) (by rw [hbad]; exact congrArg not (decide_eq_decide.mpr ⟨fun z => V.str.inj z, fun z => congrArg V.str z⟩))) fun _ => et_is (et_test (ev_op (ev_lenD (ev_var rfl) m1.dk) ev_c rv_I0)) (by rw [kl]; exact decide_eq_decide.mpr ⟨fun h => by omega, fun h => by omega⟩)) (fun hb H2 e2 => s_ret ev_c fun H3 e3 => q0 ?_ H3 (e1.trans (e2.trans e3))) fun hb H2 e2 => ?_
    · cases h : (five && bad) with
      | true => rfl
      | false =>
        rw [h, Bool.false_or, decide_eq_true_iff] at hb
        rw [if_neg (by decide)]
        exact none_cue fun k => by have := k.2.2.1; omega
    obtain ⟨hb1, hb2⟩ := Bool.or_eq_false_iff.mp hb
    rw [hb1, if_neg (by decide)] at q0 q1
    have few : st.B.length < 100 := by have := of_decide_eq_false hb2; omega
    have m2 := m1.ex e2
    have hnl2 := e2 _ _ hnl
    obtain ⟨n, hn⟩ : ∃ n, n = numW b := ⟨_, rfl⟩
    obtain ⟨u, hu0⟩ : ∃ n, n = numW c := ⟨_, rfl⟩
    obtain ⟨dn, hd0⟩ : ∃ n, n = numW d := ⟨_, rfl⟩
    have hnl2 : H2 nl = some (.lst [.int n, .int u, .int dn]) := by rw [hn, hu0, hd0]; exact hnl2
    have n2 : n ≤ 999999 := by rw [hn]; exact numW_le b
    rw [← hn, ← hu0, ← hd0] at q0 q1
    have ix0 : ∀ {H3 : Hp} {y3 : Option V} (e : Ex H2 H3), Ev (tOp (rIxL K) (tVar 2) (tC (.int 0))) [some (.ref wl), some (.ref m), some (.ref nl), y3] H3 (.int n) := fun {H3 y3} e => ev_ixK (ev_var rfl) ev_c (.of (e _ _ hnl2)) rfl
    have ix1 : ∀ {H3 : Hp} {y3 : Option V} (e : Ex H2 H3), Ev (tOp (rIxL K) (tVar 2) (tC (.int 1))) [some (.ref wl), some (.ref m), some (.ref nl), y3] H3 (.int u) := fun {H3 y3} e => ev_ixK (ev_var rfl) ev_c (.of (e _ _ hnl2)) rfl
    have ix2 : ∀ {H3 : Hp} {y3 : Option V} (e : Ex H2 H3), Ev (tOp (rIxL K) (tVar 2) (tC (.int 2))) [some (.ref wl), some (.ref m), some (.ref nl), y3] H3 (.int dn) := fun {H3 y3} e => ev_ixK (ev_var rfl) ev_c (.of (e _ _ hnl2)) rfl
    have keysV : (mkv R).map (fun kv => kV kv.1) = (st.B.map (·.n)).map V.int := by
      have := congrArg (List.map kV) hm.keys
      rw [List.map_map, List.map_map] at this
      exact this
    have i := hm.inv
    have i0 := i.n0
    have mem : st.n ∈ (0 : Int) :: st.B.map (·.n) := i.on.elim (fun h => by rw [h.2]; exact List.mem_cons_self) fun ⟨c, hc, e⟩ => List.mem_cons_of_mem _ (List.mem_map.mpr ⟨c, hc, e⟩)
    have top : ∀ y ∈ (0 : Int) :: st.B.map (·.n), y ≤ st.n := fun y hy => (List.mem_cons.mp hy).elim (fun z => by rw [z]; exact i0) fun hy => by
      obtain ⟨c, hc, rfl⟩ := List.mem_map.mp hy
      exact i.top c hc
    refine q_when (b := !decide (1 ≤ n) || decide (n ≤ st.n)) (et_or (et_not (et_test (ev_op ev_c (ix0 (Ex.refl _)) rv_I0))) fun _ => et_test (ev_op (ev_maxL (K := K) (ns := (0 : Int) :: st.B.map (·.n)) (el_catNN (xs := [V.int 0]) (el_lst (ea_cons ev_c ea_nil) (by show 1 ≤ 100000; decide)) (by rw [← keysV]; exact el_listD (ev_var rfl) (.inl m2.dk)) (by rw [List.length_map, List.length_map]; show 1 + _ ≤ _; omega)) mem top) (ix0 (Ex.refl _)) rv_I0)) (fun hb H3 e3 => s_ret ev_c fun H4 e4 => q0 (none_cue fun k => ?_) H4 (e1.trans (e2.trans (e3.trans e4)))) fun hb H3 e3 => ?_
    · have h1 := k.1
      have h2 := k.2.1
      rw [decide_eq_true h1, decide_eq_false (by omega)] at hb
      exact absurd hb (by decide)
    have hb := Bool.or_eq_false_iff.mp hb
    have n1 : 1 ≤ n := by
      have := hb.1
      rw [Bool.not_eq_false', decide_eq_true_iff] at this
      exact this
    have lt : st.n < n := by have := of_decide_eq_false hb.2; omega
    refine q_when (b := !(decide (0 ≤ u) && decide (u ≤ 6000)) || !(decide (0 ≤ dn) && decide (dn ≤ 6000))) (et_or (et_not (et_test (ev_chain ev_c (ix1 e3) rv_I0 (fun _ => ev_c) fun _ => rv_I0))) fun _ => et_not (et_test (ev_chain ev_c (ix2 e3) rv_I0 (fun _ => ev_c) fun _ => rv_I0))) (fun hb H4 e4 => s_ret ev_c fun H5 e5 => q0 (none_cue fun k => ?_) H5 (e1.trans (e2.trans (e3.trans (e4.trans e5))))) fun hb H4 e4 => ?_
    · obtain ⟨_, _, _, k1, k2, k3, k4⟩ := k
      rw [decide_eq_true k1, decide_eq_true k2, decide_eq_true k3, decide_eq_true k4] at hb
      exact absurd hb (by decide)
    have hb := Bool.or_eq_false_iff.mp hb
    rw [Bool.not_eq_false', Bool.not_eq_false', Bool.and_eq_true, Bool.and_eq_true, decide_eq_true_iff, decide_eq_true_iff, decide_eq_true_iff, decide_eq_true_iff] at hb
    obtain ⟨⟨k1, k2⟩, k3, k4⟩ := hb
    have ck : CueOk st n u dn := ⟨n1, lt, few, k1, k2, k3, k4⟩
    have eall := e1.trans (e2.trans (e3.trans e4))
    have m4 := hm.ex eall
    have hno : n ∉ (bk R).map (·.n) := fun z => by
      rw [hm.bk] at z
      obtain ⟨c, hc, e⟩ := List.mem_map.mp z
      have := i.top c hc
      omega
    refine q_putRow (ix1 (e3.trans e4)) (ix2 (e3.trans e4)) (lenV eall rfl) (ev_var rfl) (ix0 (e3.trans e4)) m4.dk (by rw [kl]; omega) fun la wa H5 nl5 nw5 e5 hla hwa => ?_
    rw [put_mkv (r := ⟨⟨n, u, dn, five, []⟩, la, wa⟩) hno]
    have off : ∀ b u, b ≠ m → H b = some u → H5 b = some u := fun b u _ h => e5 _ _ (eall _ _ h)
    have nl6 := fresh_back eall nl5
    have nw6 := fresh_back eall nw5
    refine s_ret ev_c fun H6 e6 => ?_
    have s1 := takeCue_of (fr := five) i ck n2
    refine q1 _ s1 H6 (R ++ [⟨⟨n, u, dn, five, []⟩, la, wa⟩]) ⟨(hm.mat.put (r := ⟨⟨n, u, dn, five, []⟩, la, wa⟩) off hno nl6 nw6 hla hwa List.nodup_nil).ex e6, e6 _ _ upd_same, by rw [bk_put, hm.bk], i.put ck n2⟩ ?_
    exact (Mv.put (r := ⟨⟨n, u, dn, five, []⟩, la, wa⟩) off nl6 nw6 _).trans (Mv.of_ex e6)
end
end LW

namespace LW
open PySem PySem.Spec PyProof.Rows L2 Evl HB HS MB HW HM HI PI MC HJ HG PS PT MD GX MX RH DC RP RQ RM RL RS RT RX RY RZ RA SP SQ TX RD RK RF RG RN RO
section
variable {P : Program} {w : World} {K : PySem.W.Frag} {mg : Str → Option Value} {base : Heap}
/-! ### _law_word_in -/
def spWordIn : Sp := fun vs H Q _ => ∃ (wl m : Addr) (a b : Str) (ls : List Str) (R : List CRow) (s : RSt), vs = [.ref wl, .ref m] ∧ H wl = some (.lst ([a, b].map V.str)) ∧ Wok a ∧ Wok b ∧ Mdl H m R s ∧ Good ls s.B ∧ Read1 m R (takeWord s a (numW b)) H Q
theorem ok_law_word_in (T : Top K mg) : Dn P w K mg base "_law_word_in" 2 ["_law_words", "_law_model"] spWordIn := by
  refine T.d__law_word_in.ok sc_law_word_in (fun vs H Q E h => ?_) (fun f cdv A outer s H vs Q E hr h => ?_)
  · obtain ⟨wl, m, a, b, ls, R, s, rfl, _⟩ := h
    rfl
  · obtain ⟨wl, m, a, b, ls, R, st, rfl, hwl, oka, okb, hm, gd, q0, q1⟩ := h
    have hu := hu_of hr
    have hu64 := hr.units
    refine ⟨_, (pss_cons (ps_set (i := 2) sc_law_word_in.nd rfl (.inr rfl) (pe_ix (r := rIxL K) ix_list (pv 0) pe_int (fun _ _ => rfl)))
        (pss_cons (ps_setLc (i := 3) (own := [("_law_sign", 6)]) (g := gName 6) (by rfl) sc_law_word_in.nd rfl rfl (sw_true rfl rfl rfl (by decide +kernel)) (pi_str (pv 2)) (blkOk_by (own := [("_law_sign", 6)]) (N := ns_law_word_in) (sc := defScope s_law_word_in) (by decide +kernel)) (fun _ _ _ _ _ => (pg_name (i := 6) sc_law_word_in.nd rfl (.inl rfl))) (fun _ _ _ _ _ => (pts_one (pt_cmpR op_notIn_sign (pv 6) pe_str rfl))) (fun _ _ _ _ _ => (pv 6)))
        (pss_cons (ps_set (i := 4) sc_law_word_in.nd rfl (.inl rfl) (pe_dn (ok_law_number_in T) (hr.mono (by decide)) (by rfl) (pa_cons (pe_ix (r := rIxL K) ix_list (pv 0) pe_int (fun _ _ => rfl)) pa_nil)))
        (pss_cons (ps_if (PW.pt (pw_or (pt_cmpR (op_eq0 hu) (pv 1) pe_dnewK (nomark _)) (pw_or (pt_cmpR (op_neD hu64) (pv 3) (pe_lst pa_nil) (nomark _)) (pw_or (pt_not (pt_chain op_lt op_lt pe_int (pe_callB call_len_str (by rfl) T.z_len PySem.boot_len (pa_cons (pv 2) pa_nil)) pe_int)) (pw_or1 (pt_not (pt_chain op_le op_le pe_int (pv 4) pe_int)))))))
        (pss_one (ps_ret pe_bl))
        pss_nil)
        (pss_cons (ps_set (i := 5) sc_law_word_in.nd rfl (.inl rfl) (pe_ix (r := rIxL K) ix_list (pe_dget hu (pv 1) (pe_callB (RN.cr_maxK rfl) (by rfl) T.z_max (by decide +kernel) (pa_cons (pv 1) pa_nil)) (fun _ _ => rfl)) pe_int (fun _ _ => rfl)))
        (pss_cons (ps_if (pt_cmpR (op_neD hu64) (pe_lock (pe_lc (own := [("_law_one", 7)]) (g := gName 7) (by rfl) sc_law_word_in.nd (pi_keys (pv 5)) (blkOk_by (own := [("_law_one", 7)]) (N := ns_law_word_in) (sc := defScope s_law_word_in) (by decide +kernel)) (fun _ _ _ _ _ => (pg_name (i := 7) sc_law_word_in.nd rfl (.inl rfl))) (fun _ _ _ _ _ => (pts_one (pt_cmpR op_ge_str (pv 7) (pv 2) (nomark _)))) (fun _ _ _ _ _ => (pv 7)))) (pe_lst pa_nil) (nomark _))
        (pss_one (ps_ret pe_bl))
        pss_nil)
        (pss_cons (ps_dput hu (pv 5) (pv 2) (pv 4) rfl)
        (pss_one (ps_ret pe_bl))))))))), ?_⟩
    have i := hm.inv
    obtain ⟨v, hv⟩ : ∃ v, v = numW b := ⟨_, rfl⟩
    rw [← hv] at q0 q1
    have al : a.length ≤ 1000000 := oka.2
    have als : a.length ≤ sizeLine := Nat.le_trans al (by decide)
    refine q_asg (v := .str a) (ev_ixK (ev_var rfl) ev_c (.of hwl) rfl) fun H1 e1 => ?_
    refine q_asgL (xs := (oth small a).map V.str) (el_oth small (ev_var rfl) al (fun _ => rfl) (fun c H3 e3 => et_is (et_test (ev_op (ev_var rfl) ev_c rv_niS)) (by rw [smalls_mem])) fun c H3 e3 => ev_var rfl) fun o H2 no e2 ho => ?_
    refine q_asg (v := .int v) (ev_callR (ea_cons (ev_ixK (K := K) (v := .str b) (ev_var rfl) ev_c (.of (e2 _ _ (e1 _ _ hwl))) rfl) ea_nil) fun H3 e3 => ⟨b, rfl, okb, by rw [hv]⟩) fun H3 e3 => ?_
    have e03 := e1.trans (e2.trans e3)
    have m3 := hm.ex e03
    have kl := hm.len
    refine q_when (b := decide (st.B = []) || (!(a.cps.toList.all small) || (!(decide (1 ≤ a.length) && decide (a.length ≤ 8)) || !(decide (0 ≤ v) && decide (v ≤ 100))))) (et_or (et_is (et_test (ev_eq0 (ev_var rfl) ed_new m3.dk)) (decide_eq_decide.mpr ⟨fun h => List.eq_nil_of_length_eq_zero (by rw [← kl, h]; rfl), fun h => List.eq_nil_of_length_eq_zero (by rw [kl, h]; rfl)⟩)) fun _ => et_or (et_is (et_test (ev_neStrV (ev_var rfl) (e3 _ _ ho) (oth_ok oka.1))) (by rw [oth_nil])) fun _ => et_or (et_not (et_is (et_test (ev_chain ev_c (ev_lenS (ev_var rfl) als) rv_I0 (fun _ => ev_c) fun _ => rv_I0)) (congr (congrArg and (decide_eq_decide.mpr ⟨fun h => by omega, fun h => by omega⟩)) (decide_eq_decide.mpr ⟨fun h => by omega, fun h => by omega⟩)))) fun _ => et_not (et_test (ev_chain ev_c (ev_var rfl) rv_I0 (fun _ => ev_c) fun _ => rv_I0))) (fun hb H4 e4 => s_ret ev_c fun H5 e5 => q0 (none_word i fun k => ?_) H5 (e03.trans (e4.trans e5))) fun hb H4 e4 => ?_
    · obtain ⟨k1, k2, k3, k4, _⟩ := k
      have k5 : a.cps.toList.all small = true := by
        have := lamp_of k2
        rw [lampIs_str, Bool.and_eq_true] at this
        exact this.2
      rw [decide_eq_false k1, k5, decide_eq_true k2.pos, decide_eq_true k2.len, decide_eq_true k3, decide_eq_true k4] at hb
      exact absurd hb (by decide)
    obtain ⟨hb1, hb⟩ := Bool.or_eq_false_iff.mp hb
    obtain ⟨hb2, hb⟩ := Bool.or_eq_false_iff.mp hb
    obtain ⟨hb3, hb4⟩ := Bool.or_eq_false_iff.mp hb
    rw [Bool.not_eq_false'] at hb2 hb3 hb4
    rw [Bool.and_eq_true, decide_eq_true_iff, decide_eq_true_iff] at hb3 hb4
    have ne := of_decide_eq_false hb1
    have lk : LampOk a := by
      obtain ⟨z, ez, k⟩ := lamp_yes (x := .str a) (by rw [lampIs_str, decide_eq_true hb3.1, decide_eq_true hb3.2, hb2]; rfl)
      cases ez
      exact k
    rcases i.on with ⟨z, _⟩ | ⟨c, hc, ec⟩
    · exact absurd z ne
    have hc2 := hc
    rw [← hm.bk] at hc2
    obtain ⟨r, hr0, rfl⟩ := List.mem_map.mp hc2
    have m4 := m3.ex e4
    have ekey : Ev (tCB rMaxK (tCons (tVar 1) tNil)) [some (.ref wl), some (.ref m), some (.str a), some (.ref o), some (.int v), none, none, none] H4 (.int r.c.n) := by
      rw [ec]
      exact ev_maxK (ev_var rfl) (.inl m4.dk) hm.keys (List.mem_map.mpr ⟨_, hc, ec⟩) fun y hy => by
        obtain ⟨c, hc, rfl⟩ := List.mem_map.mp hy
        exact i.top c hc
    refine q_asg (v := .ref r.wa) (ev_words (K := K) m4.mat hr0 (ev_var rfl) ekey ev_c) fun H5 e5 => ?_
    have m5 := m4.ex e5
    have few := words_few gd hc
    obtain ⟨d0, hd0⟩ : ∃ d0 : Str × Int, d0 = (Str.empty, 0) := ⟨_, rfl⟩
    have hxs : (((r.c.ws.filter fun x => !decide (tlt x.1 a)).map (·.1)).map V.str) = given (wkv r.c.ws).length (fun i => !decide (tlt (r.c.ws.getD i d0).1 a)) (fun i => V.str (r.c.ws.getD i d0).1) := by
      rw [wkv_len, List.map_map]
      exact (given_of d0 r.c.ws (fun x => !decide (tlt x.1 a)) (fun x => V.str x.1)).symm
    have at_ : ∀ {i : Nat} {k : Key} {x : V}, (wkv r.c.ws)[i]? = some (k, x) → k = .inr (r.c.ws.getD i d0).1 := fun {i k x} h => by
      unfold wkv at h
      rw [List.getElem?_map] at h
      obtain ⟨y, hy, ey⟩ := Option.map_eq_some_iff.mp h
      rw [getD_of d0 hy]
      exact (congrArg Prod.fst ey).symm
    have gek : ∀ {x : Str} {H6 : Hp}, RV (fun x y H Q => ∃ i j : Str, x = .str i ∧ y = .str j ∧ Q (.bl (!decide (i.cps.toList < j.cps.toList))) H) (.str x) (.str a) H6 (.bl (!decide (tlt x a))) := fun {x H6} H7 _ _ q => ⟨x, a, rfl, rfl, q H7 (Ex.refl H7)⟩
    refine q_when (b := !decide ((r.c.ws.filter fun x => !decide (tlt x.1 a)).map (·.1) = [])) (et_test (ev_neStr0 (K := K) (el_lock (m5.mat.row r hr0).2 trivial fun H6 o6 e6 => by
      rw [hxs]
      exact el_lcKeys (kvs := wkv r.c.ws) (o := o6) _ _ (ev_var rfl) upd_same (by rw [wkv_len]; omega) (fun _ => rfl) (fun i k v H7 e7 hk => by
        rw [at_ hk]
        exact et_test (ev_op (ev_var rfl) (ev_var rfl) gek)) fun i k v H7 e7 hk _ => by
        rw [at_ hk]
        exact ev_var rfl) fun y hy => by
      obtain ⟨x, hx, rfl⟩ := List.mem_map.mp hy
      exact lamp_strOk (i.ok _ hc x (List.mem_filter.mp hx).1))) (fun hb H6 e6 => s_ret ev_c fun H7 e7 => q0 (none_word i fun k => ?_) H7 (e03.trans (e4.trans (e5.trans (e6.trans e7))))) fun hb H6 e6 => ?_
    · rw [Bool.not_eq_true', decide_eq_false_iff_not] at hb
      refine hb ?_
      rw [List.map_eq_nil_iff, List.filter_eq_nil_iff]
      intro x hx
      rw [decide_eq_true (k.2.2.2.2 _ hc ec x hx)]
      decide
    rw [Bool.not_eq_false', decide_eq_true_iff, List.map_eq_nil_iff, List.filter_eq_nil_iff] at hb
    have wk : WordOk st a v := ⟨ne, lk, hb4.1, hb4.2, fun c' hc' e' x hx => by
      have e2 : c' = r.c := nodup_at i.nd hc' hc (e'.trans ec.symm)
      rw [e2] at hx
      have := hb x hx
      rw [Bool.not_eq_true, Bool.not_eq_false', decide_eq_true_iff] at this
      exact this⟩
    have m6 := m5.ex e6
    refine q_dput (k := .inr a) (v := .int v) (ev_var rfl) (ev_var rfl) (ev_var rfl) (m6.mat.row r hr0).2 (by rw [wkv_len]; omega) fun H7 e7 => ?_
    rw [put_wkv]
    refine s_ret ev_c fun H8 e8 => ?_
    have eall := e03.trans (e4.trans (e5.trans (e6.trans e7)))
    refine q1 _ (takeWord_of i wk) H8 (setR R r.c.n a v) ⟨((m6.mat.ex e7).setw hr0 a v).ex e8, ?_, by rw [bk_setR, hm.bk, ec], i.word wk⟩ ?_
    · rw [show mkv (setR R r.c.n a v) = mkv R from mkv_setR R _ _ _]
      refine e8 _ _ ?_
      rw [upd_ne (Ne.symm (m6.mat.mw r hr0))]
      exact e7 _ _ m6.dk
    · exact (Mv.setw hr0 eall a v _).trans (Mv.of_ex e8)
end
end LW

namespace LW
open PySem PySem.Spec PyProof.Rows L2 Evl HB HS MB HW HM HI PI MC HJ HG PS PT MD GX MX RH DC RP RQ RM RL RS RT RX RY RZ RA SP SQ TX RD RK RF RG RN RO
section
variable {P : Program} {w : World} {K : PySem.W.Frag} {mg : Str → Option Value} {base : Heap}
/-! ### _law_read -/
def Two2 (ls rs : List Str) : Prop := ∀ r ∈ rs, ∀ a b, Txt.split r " " = [a, b] → LampOk a → a ∈ ls
def spLread : Sp := fun vs H Q _ => ∃ (t : Str) (rs : List Str) (last : Str) (ls : List Str), vs = [.str t] ∧ Asc t ∧ t.length ≤ 900000 ∧ Txt.split t "\n" = rs ++ [last] ∧ (∀ l ∈ ls, LampOk l) ∧ ls.length < 64 ∧ Two2 ls rs ∧
  (∀ i, goT rs 0 s0 = .inr i → i < rs.length → ∀ H', Ex H H' → Q (.int i) H') ∧ (∀ s, goT rs 0 s0 = .inl s → last ≠ Str.empty → ∀ H', Ex H H' → Q (.int rs.length) H') ∧
  ∀ s, goT rs 0 s0 = .inl s → last = Str.empty → ∀ H' m R, Ex H H' → Mdl H' m R s → (∀ b, MF m R b → H b = none) → Q (.ref m) H'
theorem ok_law_read (T : Top K mg) : Dn P w K mg base "_law_read" 3 ["_law_text_here"] spLread := by
  refine T.d__law_read.ok sc_law_read (fun vs H Q E h => ?_) (fun f cdv A outer s H vs Q E hr h => ?_)
  · obtain ⟨t, rs, last, ls, rfl, _⟩ := h
    rfl
  · obtain ⟨t, rs, last, ls, rfl, asc, tl, hsp, lok, few, two, q1, q2, q3⟩ := h
    have hu := hu_of hr
    have hu64 := hr.units
    refine ⟨_, (pss_cons (ps_set (i := 1) sc_law_read.nd rfl (.inl rfl) pe_dnewK)
        (pss_cons (ps_set (i := 2) sc_law_read.nd rfl (.inl rfl) (pe_split (pv 0) pe_str))
        (pss_cons (ps_for PassesOwn.never rfl (pi_enum (by rfl) T.z_enumerate (pa_cons (pe_slice sl_list (pv 2) po_none (po_some (pe_un un_neg pe_int))) pa_nil)) (pg_tup rfl (pgs_cons (pg_name (i := 3) sc_law_read.nd rfl (.inl rfl)) (pgs_cons (pg_name (i := 4) sc_law_read.nd rfl (.inl rfl)) pgs_nil)))
        (pss_cons (ps_set (i := 5) sc_law_read.nd rfl (.inl rfl) (pe_split (pv 4) pe_str))
        (pss_cons (ps_set (i := 6) sc_law_read.nd rfl (.inl rfl) pe_bl)
        (pss_cons (ps_if (PW.pt (pw_and (pt_cmpR op_eq (pe_ix (r := rIxL K) ix_list (pv 5) pe_int (fun _ _ => rfl)) pe_str (nomark _)) (pw_and1 (pt_cmpR op_in_seq (pe_callB call_len_seq (by rfl) T.z_len PySem.boot_len (pa_cons (pv 5) pa_nil)) (pe_tup (pa_cons pe_int (pa_cons pe_int pa_nil))) rfl))))
        (pss_one (ps_set (i := 6) sc_law_read.nd rfl (.inl rfl) (pe_dn (ok_law_cue_in T) (hr.mono (by decide)) (by rfl) (pa_cons (pv 5) (pa_cons (pv 1) pa_nil)))))
        (pss_one (ps_if (pt_cmpR op_eq (pe_callB call_len_seq (by rfl) T.z_len PySem.boot_len (pa_cons (pv 5) pa_nil)) pe_int (nomark _))
        (pss_one (ps_set (i := 6) sc_law_read.nd rfl (.inl rfl) (pe_dn (ok_law_word_in T) (hr.mono (by decide)) (by rfl) (pa_cons (pv 5) (pa_cons (pv 1) pa_nil)))))
        pss_nil)))
        (pss_one (ps_if (pt_not (pt_val (pv 6)))
        (pss_one (ps_ret (pv 3)))
        pss_nil))))))
        (pss_one (ps_ret (pe_ifExp (pt_cmpR op_eq (pe_ix (r := rIxL K) ix_list (pv 2) (pe_un un_neg pe_int) (fun _ _ => rfl)) pe_str (nomark _)) (pv 1) (pe_op op_sub (pe_callB call_len_seq (by rfl) T.z_len PySem.boot_len (pa_cons (pv 2) pa_nil)) pe_int))))))), ?_⟩
    refine q_asgD ed_new fun m H1 nm e1 hm => ?_
    refine q_asgL (xs := (rs ++ [last]).map V.str) (by rw [← hsp]; exact el_split (ev_var rfl) ev_c (by decide) (Nat.le_trans (show t.length + 2 ≤ 1000000 by omega) (by decide))) fun la H2 nl e2 hl => ?_
    have hl1 : ((rs ++ [last]).map V.str) = rs.map V.str ++ [V.str last] := by rw [List.map_append]; rfl
    have m0 : Mdl H2 m [] s0 := ⟨⟨.inl (e2 _ _ hm), fun r hr => absurd hr List.not_mem_nil, List.nodup_nil, List.nodup_nil, List.nodup_nil, fun r hr => absurd hr List.not_mem_nil, fun r hr => absurd hr List.not_mem_nil⟩, e2 _ _ hm, rfl, inv0⟩
    have nmla : la ≠ m := fun z => by rw [z, hm] at nl; cases nl
    refine q_forEnumN (xs := rs.map V.str) (by
      have z := el_sl (K := K) (te := tVar 2) (σ := [some (.str t), some (.ref m), some (.ref la), none, none, none, none]) (H := H2) (xs := rs.map V.str ++ [V.str last]) (lo := none) (hi := some (-1)) (ev_var rfl) eo_none (eo_some (ev_un ev_c ru_neg)) (.of (by rw [← hl1]; exact hl))
      rw [cut_init] at z
      exact z) (fun p i σ' H' => ∃ y3 y4 y5 y6 R s, σ' = [some (.str t), some (.ref m), some (.ref la), y3, y4, y5, y6] ∧ goT (rs.drop i) i s = goT rs 0 s0 ∧ Lam ls s.B ∧ Mdl H' m R s ∧ Ex H H' ∧ H' p = some (.lst (rs.map V.str)) ∧ H' la = some (.lst ((rs ++ [last]).map V.str)) ∧ ¬ MF m R p ∧ ¬ MF m R la ∧ ∀ b, MF m R b → H b = none)
      (fun p H3 np e3 hp => ⟨_, _, _, _, [], s0, rfl, rfl, fun c hc => absurd hc List.not_mem_nil, m0.ex e3, e1.trans (e2.trans e3), hp, e3 _ _ hl, fun z => z.elim (fun z => by (rw [z, e2 _ _ hm] at np; cases np)) fun ⟨r, hr, _⟩ => absurd hr List.not_mem_nil, fun z => z.elim nmla fun ⟨r, hr, _⟩ => absurd hr List.not_mem_nil, fun b z => z.elim (fun z => by rw [z]; exact nm) fun ⟨r, hr, _⟩ => absurd hr List.not_mem_nil⟩) (fun p i σ' H' ⟨_, _, _, _, _, _, _, _, _, _, _, h, _⟩ => h) (fun p i x σ' H' Tt hx => ?_) fun p σ' H' => ?_
    · rintro ⟨y3, y4, y5, y6, R, s, rfl, hT, lam, hm', e', hp, hla, np, nla, new⟩ nT
      rw [List.getElem?_map] at hx
      obtain ⟨row, hrow, rfl⟩ := Option.map_eq_some_iff.mp hx
      have lt : i < rs.length := (List.getElem?_eq_some_iff.mp hrow).1
      have hrow2 : rs[i] = row := (List.getElem?_eq_some_iff.mp hrow).2
      have hmem : row ∈ rs := List.mem_of_getElem? hrow
      have hd : rs.drop i = row :: rs.drop (i + 1) := by rw [List.drop_eq_getElem_cons lt, hrow2]
      rw [hd] at hT
      have eT : Ex H' (upd H' Tt (.tup [.int (i : Nat), .str row])) := Ex.new nT
      have rl : row.length ≤ 900000 := Nat.le_trans (split_nl (x := t) (p := row) (by rw [hsp]; exact List.mem_append_left _ hmem)) tl
      have rasc : Asc row := fun c hc => asc c (row_signs (x := t) (by rw [hsp]; exact List.mem_append_left _ hmem) c hc).1
      obtain ⟨ws, hws⟩ : ∃ ws, ws = Txt.split row " " := ⟨_, rfl⟩
      have wok : ∀ x ∈ ws, Wok x := fun x hx => by
        rw [hws] at hx
        exact ⟨fun c hc => rasc c (word_signs hx c hc).1, Nat.le_trans (split_sp hx) (by omega)⟩
      have two1 := two row hmem
      have hrow3 : ∀ s, takeRow s row = takeWs s ws := fun s => by rw [hws]; rfl
      rw [← hws] at two1
      refine q_asgL (xs := ws.map V.str) (by rw [hws]; exact el_split (ev_var rfl) ev_c (by decide) (Nat.le_trans (show row.length + 2 ≤ 1000000 by omega) (by decide))) fun wl H5 nwl e5 hwl => ?_
      refine q_asg (v := .bl false) ev_c fun H6 e6 => ?_
      have e06 := eT.trans (e5.trans e6)
      have m6 := hm'.ex e06
      have hwl6 := e6 _ _ hwl
      have gd := m6.inv.good lam lok few
      have qF : takeWs s ws = none → ∀ Hz, Ex H' Hz → Q (.int i) Hz := fun z Hz ez => q1 i (by
        rw [← hT]
        show (match takeRow s row with | none => (.inr i : RSt ⊕ Nat) | some s' => goT (rs.drop (i + 1)) (i + 1) s') = _
        rw [hrow3, z]) lt Hz (e'.trans ez)
      have nxt : ∀ (s' : RSt) (R' : List CRow) (H7 Hz : Hp) (y5 y6 : Option V), takeWs s ws = some s' → Ex H' H7 → Mdl Hz m R' s' → Mv (MF m R) H7 (MF m R') Hz → ∃ (z3 z4 z5 z6 : Option V) (R : List CRow) (s : RSt), [some (.str t), some (.ref m), some (.ref la), some (.int (i : Nat)), some (.str row), y5, y6] = [some (.str t), some (.ref m), some (.ref la), z3, z4, z5, z6] ∧ goT (rs.drop (i + 1)) (i + 1) s = goT rs 0 s0 ∧ Lam ls s.B ∧ Mdl Hz m R s ∧ Ex H Hz ∧ Hz p = some (.lst (rs.map V.str)) ∧ Hz la = some (.lst ((rs ++ [last]).map V.str)) ∧ ¬ MF m R p ∧ ¬ MF m R la ∧ ∀ b, MF m R b → H b = none := fun s' R' H7 Hz y5 y6 hz e7 mz vz => by
        have v := (Mv.of_ex (fp := MF m R) e7).trans vz
        obtain ⟨hp2, np2⟩ := v.off hp np
        obtain ⟨hl2, nl2⟩ := v.off hla nla
        refine ⟨_, _, _, _, R', s', rfl, ?_, lam_step m6.inv hz lam two1, mz, mv_ex (e'.trans e7) vz new, hp2, hl2, np2, nl2, mv_new (e'.trans e7) vz new⟩
        rw [← hT]
        show _ = (match takeRow s row with | none => (.inr i : RSt ⊕ Nat) | some s' => goT (rs.drop (i + 1)) (i + 1) s')
        rw [hrow3, hz]
      have wlen : ((ws.map V.str).length : Int) = (ws.length : Int) := by rw [List.length_map]
      have elen : ∀ {Hx : Hp}, Ex H6 Hx → Ev _ [some (.str t), some (.ref m), some (.ref la), some (.int (i : Nat)), some (.str row), some (.ref wl), some (.bl false)] Hx (.int (ws.length : Int)) := fun {Hx} e => ev_is (ev_len (K := K) (ev_var (i := 5) rfl) (.of (e _ _ hwl6))) (by rw [wlen])
      cases hw0 : ws with
      | nil => exact absurd (hws ▸ hw0) (split_ne (s := 32) (by decide) (by decide +kernel))
      | cons w0 rest =>
        have t0 : EvT _ [some (.str t), some (.ref m), some (.ref la), some (.int (i : Nat)), some (.str row), some (.ref wl), some (.bl false)] H6 (decide (w0 = "cue") && (decide ((ws.length : Int) = 4) || decide ((ws.length : Int) = 5))) := et_and (et_is (et_test (ev_op (ev_ixK (K := K) (v := .str w0) (ev_var (i := 5) rfl) (ev_c (v := .int 0)) (.of hwl6) (atI_nat (j := 0) (by rw [hw0]; rfl))) (ev_c (v := .str "cue")) (rv_eq rfl))) (decide_eq_decide.mpr ⟨fun z => V.str.inj z, fun z => congrArg V.str z⟩)) fun _ => et_is (et_test (ev_opU (elen (Ex.refl _)) (eu_tup (ea_cons (ev_c (v := .int 4)) (ea_cons (ev_c (v := .int 5)) ea_nil)) (by show 2 ≤ 100000; decide)) fun q Hq hq eq => rv_inT (K := K) (neg := false) (.of hq) rfl rfl)) (inV45 _)
        refine q_if t0 (fun hb H7 e7 => ?_) fun hb H7 e7 => ?_
        · have hb := Bool.and_eq_true_iff.mp hb
          have hc0 : w0 = "cue" := of_decide_eq_true hb.1
          have hlen : ws.length = 4 ∨ ws.length = 5 := by
            rcases Bool.or_eq_true_iff.mp hb.2 with h | h
            · exact .inl (by have := of_decide_eq_true h; omega)
            · exact .inr (by have := of_decide_eq_true h; omega)
          obtain ⟨b, c, d, ex, hws4, hex⟩ : ∃ b c d ex, ws = ("cue" : Str) :: b :: c :: d :: ex ∧ (ex = [] ∨ ∃ e, ex = [e]) := by
            rw [hw0, hc0] at hlen ⊢
            match rest, hlen with
            | [b, c, d], _ => exact ⟨b, c, d, [], rfl, .inl rfl⟩
            | [b, c, d, e], _ => exact ⟨b, c, d, [e], rfl, .inr ⟨e, rfl⟩⟩
            | [], h => exact absurd h (by decide)
            | [_], h => exact absurd h (by simp)
            | [_, _], h => exact absurd h (by simp)
            | _ :: _ :: _ :: _ :: _ :: r, h => exact absurd h (by simp)
          refine s_asgQ ((ea_cons (ev_var rfl) (ea_cons (ev_var rfl) ea_nil)) H7 (Ex.refl H7) (fun vs H1 => spCueIn (vs ++ []) H1 _ E0) fun H8 e8 => ?_)
          refine ⟨wl, m, b, c, d, ex, R, s, rfl, by rw [← hws4]; exact e8 _ _ (e7 _ _ hwl6), hex, fun x hx => wok x (by rw [hws4]; exact List.mem_cons_of_mem _ (by simp only [List.mem_cons, List.not_mem_nil, or_false] at hx ⊢; rcases hx with h | h | h <;> simp [h])), (m6.ex e7).ex e8, fun z Hz ez => ?_, fun s' z Hz R' mz vz => ?_⟩
          · rw [← hws4] at z
            exact s_when (b := true) (et_not (et_B (b := false) (ev_var rfl))) (fun _ Hy ey => s_ret (ev_var rfl) fun Hw ew => qF z Hw (e06.trans (e7.trans (e8.trans (ez.trans (ey.trans ew)))))) fun h => absurd h (by decide)
          · rw [← hws4] at z
            exact s_when (b := false) (et_not (et_B (b := true) (ev_var rfl))) (fun h => absurd h (by decide)) fun _ Hy ey => nxt s' R' H8 Hy _ _ z (e06.trans (e7.trans e8)) (mz.ex ey) (vz.trans (Mv.of_ex ey))
        · refine s_if (b := decide ((ws.length : Int) = 2)) (et_is (et_test (ev_op (elen e7) (ev_c (v := .int 2)) (rv_eq rfl))) (decide_eq_decide.mpr ⟨fun z => V.int.inj z, fun z => congrArg V.int z⟩)) (fun hb2 H8 e8 => ?_) fun hb2 H8 e8 => ?_
          · have hlen : ws.length = 2 := by have := of_decide_eq_true hb2; omega
            obtain ⟨a, b, hws2⟩ : ∃ a b, ws = [a, b] := by
              match ws, hlen with
              | [a, b], _ => exact ⟨a, b, rfl⟩
            refine s_asgQ ((ea_cons (ev_var rfl) (ea_cons (ev_var rfl) ea_nil)) H8 (Ex.refl H8) (fun vs H1 => spWordIn (vs ++ []) H1 _ E0) fun H9 e9 => ?_)
            refine ⟨wl, m, a, b, ls, R, s, rfl, by rw [← hws2]; exact e9 _ _ (e8 _ _ (e7 _ _ hwl6)), wok a (by rw [hws2]; simp), wok b (by rw [hws2]; simp), ((m6.ex e7).ex e8).ex e9, gd, fun z Hz ez => ?_, fun s' z Hz R' mz vz => ?_⟩
            · have z : takeWs s ws = none := by rw [hws2]; exact z
              exact s_when (b := true) (et_not (et_B (b := false) (ev_var rfl))) (fun _ Hy ey => s_ret (ev_var rfl) fun Hw ew => qF z Hw (e06.trans (e7.trans (e8.trans (e9.trans (ez.trans (ey.trans ew))))))) fun h => absurd h (by decide)
            · have z : takeWs s ws = some s' := by rw [hws2]; exact z
              exact s_when (b := false) (et_not (et_B (b := true) (ev_var rfl))) (fun h => absurd h (by decide)) fun _ Hy ey => nxt s' R' H9 Hy _ _ z (e06.trans (e7.trans (e8.trans e9))) (mz.ex ey) (vz.trans (Mv.of_ex ey))
          · have z : takeWs s ws = none := by
              have hb2 := of_decide_eq_false hb2
              rw [hw0] at hb2 hb ⊢
              match rest, hb2, hb with
              | [], _, _ => rfl
              | [b], h, _ => exact absurd rfl h
              | [b, c], _, _ => rfl
              | [b, c, d], _, h =>
                show (if w0 = "cue" then _ else _) = _
                rw [if_neg]
                intro q
                rw [decide_eq_true q] at h
                exact absurd h (by simp)
              | [b, c, d, e], _, h =>
                show (if w0 = "cue" ∧ e = "fresh" then _ else _) = _
                rw [if_neg]
                intro q
                rw [decide_eq_true q.1] at h
                exact absurd h (by simp)
              | _ :: _ :: _ :: _ :: _ :: r, _, _ => rfl
            exact s_when (b := true) (et_not (et_B (b := false) (ev_var rfl))) (fun _ Hy ey => s_ret (ev_var rfl) fun Hw ew => qF z Hw (e06.trans (e7.trans (e8.trans (ey.trans ew))))) fun h => absurd h (by decide)
    · rintro ⟨y3, y4, y5, y6, R, s, rfl, hT, lam, hm', e', hp, hla, np, nla, new⟩
      rw [List.length_map, List.drop_length] at hT
      have hT : goT rs 0 s0 = .inl s := hT.symm
      have elast : ∀ {H5 : Hp}, Ex H' H5 → Ev (tOp (rIxL K) (tVar 2) (tUn (rU fun i => V.int (-i)) (tC (.int 1)))) [some (.str t), some (.ref m), some (.ref la), y3, y4, y5, y6] H5 (.str last) := fun {H5} e => ev_ixK (K := K) (ev_var rfl) (ev_un ev_c ru_neg) (.of (e _ _ hla)) (by rw [hl1]; exact atI_last _ _)
      by_cases he : last = Str.empty
      · refine s_ret (v := .ref m) (ev_if (b := true) (et_is (et_test (ev_op (elast (Ex.refl _)) ev_c (rv_eq rfl))) (decide_eq_true (by rw [he]; rfl))) (fun _ => ev_var rfl) fun h => absurd h (by decide)) fun H5 e5 => q3 s hT he H5 m R (e'.trans e5) (hm'.ex e5) new
      · refine s_ret (v := .int rs.length) (ev_if (b := false) (et_is (et_test (ev_op (elast (Ex.refl _)) ev_c (rv_eq rfl))) (decide_eq_false fun z => he (V.str.inj z))) (fun h => absurd h (by decide)) fun _ => ev_is (ev_op (ev_len (K := K) (ev_var rfl) (.of hla)) ev_c rv_I0) (by
          rw [List.length_map, List.length_append]
          show V.int (((rs.length + 1 : Nat) : Int) - 1) = _
          rw [show ((rs.length + 1 : Nat) : Int) - 1 = (rs.length : Int) by omega])) fun H5 e5 => q2 s hT he H5 (e'.trans e5)
end
end LW

namespace LW
open PySem PySem.Spec PyProof.Rows L2 Evl HB HS MB HW HM HI PI MC HJ HG PS PT MD GX MX RH DC RP RQ RM RL RS RT RX RY RZ RA SP SQ TX RD RK RF RG RN RO RV
section
variable {P : Program} {w : World} {K : PySem.W.Frag} {mg : Str → Option Value} {base : Heap}
/-! ### _law_bad -/
def bads : List Str := (["", " ", "cue", "cue 5", "cue 5 0", "cue 5 0 0 fres", "cue 5 0 0 fresh x", "cue 0 0 0"] : List Str) ++ (["cue 1000000 0 0", "cue 05 0 0", "cue 5 6001 0", "cue 5 0 6001", "cue 5 -1 0"] : List Str) ++ (["cue 999999 0 0", "cue x 0 0", "Cue 5 0 0", "red", "red 101", "red 100 ", "red  5"] : List Str) ++ ([" red 5", "red 05", "Red 5", "red1 5", "abcdefghi 5", "red x", "red 5 6", "cue 50"] : List Str) ++ (["zzzzzzzz 1", "a 0", "cue 4 0 0 fresh", "red 100", "cue 6 6000 6000"] : List Str)
def badOf (mix : Int) : Str := bads.getD (mix % 33).toNat Str.empty
def RBad (H : Hp) (vs : List V) (z : V) : Prop := ∃ mix : Int, vs = [.int mix] ∧ z = .str (badOf mix)
def okB (v : V) : Bool := match v with
  | .str x => x.cps.toList.all (fun c => decide (c < 128) && !decide (c = 10)) && decide (x.cps.toList.length ≤ 100)
  | _ => false
theorem okB_is {v : V} (h : okB v = true) : ∃ x, v = .str x ∧ Ok10 x := by
  cases v with
  | str x =>
    have h : (_ && _) = true := h
    rw [Bool.and_eq_true, List.all_eq_true, decide_eq_true_iff] at h
    refine ⟨x, rfl, fun c hc => ?_, by rw [TL.len_tl]; exact h.2, fun z => ?_⟩
    · have := h.1 c hc
      rw [Bool.and_eq_true, decide_eq_true_iff] at this
      exact this.1
    · have := h.1 10 z
      exact absurd this (by decide)
  | _ => cases h
theorem bad_ok (mix : Int) : Ok10 (badOf mix) := by
  have h0 : 0 ≤ mix % 33 := Int.emod_nonneg _ (by decide)
  have h1 : mix % 33 < 33 := Int.emod_lt_of_pos _ (by decide)
  have l33 : bads.length = 33 := rfl
  have hk : (mix % 33).toNat < bads.length := by rw [l33]; omega
  have ok : (bads.map V.str).all okB = true := by decide +kernel
  have e : badOf mix = bads[(mix % 33).toNat] := by
    unfold badOf
    rw [List.getD_eq_getElem?_getD, List.getElem?_eq_getElem hk]
    rfl
  obtain ⟨x, ex, kx⟩ := okB_is (List.all_eq_true.mp ok (V.str (badOf mix)) (List.mem_map.mpr ⟨_, by rw [e]; exact List.getElem_mem hk, rfl⟩))
  cases ex
  exact kx
theorem ok_law_bad (T : Top K mg) : Dn P w K mg base "_law_bad" 1 ["_law_mix"] (spR RBad) := by
  refine T.d__law_bad.ok sc_law_bad (fun vs H Q E h => ?_) (fun f cdv A outer s H vs Q E hr h => ?_)
  · obtain ⟨z, ⟨mix, rfl, _⟩, _⟩ := h
    rfl
  · obtain ⟨z, ⟨mix, rfl, rfl⟩, q⟩ := h
    have hu := hu_of hr
    have hu64 := hr.units
    refine ⟨_, (pss_cons (ps_set (i := 1) sc_law_bad.nd rfl (.inl rfl) (pe_lst (pa_cons pe_str (pa_cons pe_str (pa_cons pe_str (pa_cons pe_str (pa_cons pe_str (pa_cons pe_str (pa_cons pe_str (pa_cons pe_str pa_nil))))))))))
        (pss_cons (ps_set (i := 1) sc_law_bad.nd rfl (.inl rfl) (pe_op op_cat (pv 1) (pe_lst (pa_cons pe_str (pa_cons pe_str (pa_cons pe_str (pa_cons pe_str (pa_cons pe_str pa_nil))))))))
        (pss_cons (ps_set (i := 1) sc_law_bad.nd rfl (.inl rfl) (pe_op op_cat (pv 1) (pe_lst (pa_cons pe_str (pa_cons pe_str (pa_cons pe_str (pa_cons pe_str (pa_cons pe_str (pa_cons pe_str (pa_cons pe_str pa_nil))))))))))
        (pss_cons (ps_set (i := 1) sc_law_bad.nd rfl (.inl rfl) (pe_op op_cat (pv 1) (pe_lst (pa_cons pe_str (pa_cons pe_str (pa_cons pe_str (pa_cons pe_str (pa_cons pe_str (pa_cons pe_str (pa_cons pe_str (pa_cons pe_str pa_nil)))))))))))
        (pss_cons (ps_set (i := 1) sc_law_bad.nd rfl (.inl rfl) (pe_op op_cat (pv 1) (pe_lst (pa_cons pe_str (pa_cons pe_str (pa_cons pe_str (pa_cons pe_str (pa_cons pe_str pa_nil))))))))
        (pss_one (ps_ret (pe_ix (r := rIxL K) ix_list (pv 1) (pe_op op_mod (pv 0) (pe_callB call_len_seq (by rfl) T.z_len PySem.boot_len (pa_cons (pv 1) pa_nil))) (fun _ _ => rfl))))))))), ?_⟩
    refine q_asgL (el_lst (ea_cons ev_c (ea_cons ev_c (ea_cons ev_c (ea_cons ev_c (ea_cons ev_c (ea_cons ev_c (ea_cons ev_c (ea_cons ev_c ea_nil)))))))) (by show 8 ≤ 100000; decide)) fun a H1 na e1 ha => ?_
    refine q_asgL (el_cat (ev_var rfl) ha (el_lst (ea_cons ev_c (ea_cons ev_c (ea_cons ev_c (ea_cons ev_c (ea_cons ev_c ea_nil))))) (by show 5 ≤ 100000; decide)) (by show 8 + 5 ≤ 100000; decide)) fun b H2 nb e2 hb => ?_
    refine q_asgL (el_cat (ev_var rfl) hb (el_lst (ea_cons ev_c (ea_cons ev_c (ea_cons ev_c (ea_cons ev_c (ea_cons ev_c (ea_cons ev_c (ea_cons ev_c ea_nil))))))) (by show 7 ≤ 100000; decide)) (by show 13 + 7 ≤ 100000; decide)) fun c H3 nc e3 hc => ?_
    refine q_asgL (el_cat (ev_var rfl) hc (el_lst (ea_cons ev_c (ea_cons ev_c (ea_cons ev_c (ea_cons ev_c (ea_cons ev_c (ea_cons ev_c (ea_cons ev_c (ea_cons ev_c ea_nil)))))))) (by show 8 ≤ 100000; decide)) (by show 20 + 8 ≤ 100000; decide)) fun d H4 nd e4 hd => ?_
    refine q_asgL (el_cat (ev_var rfl) hd (el_lst (ea_cons ev_c (ea_cons ev_c (ea_cons ev_c (ea_cons ev_c (ea_cons ev_c ea_nil))))) (by show 5 ≤ 100000; decide)) (by show 28 + 5 ≤ 100000; decide)) fun e H5 ne e5 he => ?_
    have hxs : H5 e = some (.lst (bads.map V.str)) := he
    have e05 := e1.trans (e2.trans (e3.trans (e4.trans e5)))
    have h0 : 0 ≤ mix % 33 := Int.emod_nonneg _ (by decide)
    have h1 : mix % 33 < 33 := Int.emod_lt_of_pos _ (by decide)
    have hk : (mix % 33).toNat < bads.length := by show _ < 33; omega
    have hat : atI (bads.map V.str) (mix % 33) = some (.str (badOf mix)) := by
      have e : (((mix % 33).toNat : Nat) : Int) = mix % 33 := by omega
      have z := atI_nat (xs := bads.map V.str) (j := (mix % 33).toNat) (v := .str (badOf mix)) (by
        rw [List.getElem?_map, List.getElem?_eq_getElem hk]
        unfold badOf
        rw [List.getD_eq_getElem?_getD, List.getElem?_eq_getElem hk]
        rfl)
      rw [e] at z
      exact z
    exact s_ret (ev_ixK (K := K) (ev_var rfl) (ev_op (ev_var rfl) (ev_is (ev_len (K := K) (ev_var rfl) (.of hxs)) rfl) (rv_I (by decide))) (.of hxs) hat) fun H6 e6 => q.go (e05.trans e6)
/-! ### _law_changed -/
def spChanged : Sp := fun vs H Q _ => ∃ (t : Str) (mix : Int), vs = [.str t, .int mix] ∧ Asc t ∧ t.length ≤ 400000 ∧ ∀ u H', Chg t u → Ex H H' → Q (.str u) H'
theorem ok_law_changed (T : Top K mg) : Dn P w K mg base "_law_changed" 2 ["_law_text_here", "_law_mix"] spChanged := by
  refine T.d__law_changed.ok sc_law_changed (fun vs H Q E h => ?_) (fun f cdv A outer s H vs Q E hr h => ?_)
  · obtain ⟨t, mix, rfl, _⟩ := h
    rfl
  · obtain ⟨t, mix, rfl, asc, tl, q⟩ := h
    have hu := hu_of hr
    have hu64 := hr.units
    refine ⟨_, (pss_cons (ps_set (i := 2) sc_law_changed.nd rfl (.inl rfl) (pe_split (pv 0) pe_str))
        (pss_cons (ps_set (i := 3) sc_law_changed.nd rfl (.inl rfl) (pe_op op_mod (pe_op op_fdiv (pv 1) pe_int) (pe_callB call_len_seq (by rfl) T.z_len PySem.boot_len (pa_cons (pv 2) pa_nil))))
        (pss_cons (ps_set (i := 4) sc_law_changed.nd rfl (.inl rfl) (pe_op op_mod (pv 1) pe_int))
        (pss_cons (ps_if (pt_cmpR op_eq (pv 4) pe_int (nomark _))
        (pss_one (ps_ret (pe_join pe_str (pe_op op_cat (pe_slice sl_list (pv 2) po_none (po_some (pv 3))) (pe_slice sl_list (pv 2) (po_some (pe_op op_add (pv 3) pe_int)) po_none)))))
        pss_nil)
        (pss_cons (ps_if (pt_cmpR op_eq (pv 4) pe_int (nomark _))
        (pss_one (ps_ret (pe_join pe_str (pe_op op_cat (pe_op op_cat (pe_slice sl_list (pv 2) po_none (po_some (pv 3))) (pe_slice sl_list (pv 2) (po_some (pv 3)) (po_some (pe_op op_add (pv 3) pe_int)))) (pe_slice sl_list (pv 2) (po_some (pv 3)) po_none)))))
        pss_nil)
        (pss_cons (ps_if (pt_cmpR op_eq (pv 4) pe_int (nomark _))
        (pss_one (ps_ret (pe_join pe_str (pe_op op_cat (pe_op op_cat (pe_slice sl_list (pv 2) po_none (po_some (pv 3))) (pe_lst (pa_cons (pe_dn (ok_law_bad T) (hr.mono (by decide)) (by rfl) (pa_cons (pe_op op_fdiv (pv 1) pe_int) pa_nil)) pa_nil))) (pe_slice sl_list (pv 2) (po_some (pe_op op_add (pv 3) pe_int)) po_none)))))
        pss_nil)
        (pss_cons (ps_if (pt_cmpR op_eq (pv 4) pe_int (nomark _))
        (pss_one (ps_ret (pe_join pe_str (pe_op op_cat (pe_op op_cat (pe_slice sl_list (pv 2) po_none (po_some (pv 3))) (pe_lst (pa_cons (pe_dn (ok_law_bad T) (hr.mono (by decide)) (by rfl) (pa_cons (pe_op op_fdiv (pv 1) pe_int) pa_nil)) pa_nil))) (pe_slice sl_list (pv 2) (po_some (pv 3)) po_none)))))
        pss_nil)
        (pss_cons (ps_set (i := 5) sc_law_changed.nd rfl (.inl rfl) (pe_op op_mod (pe_op op_fdiv (pv 1) pe_int) (pe_op op_add (pe_callB call_len_str (by rfl) T.z_len PySem.boot_len (pa_cons (pv 0) pa_nil)) pe_int)))
        (pss_cons (ps_set (i := 6) sc_law_changed.nd rfl (.inl rfl) (pe_ix ix_str pe_str (pe_op op_mod (pe_op op_fdiv (pv 1) pe_int) pe_int) (fun _ _ => rfl)))
        (pss_cons (ps_if (pt_cmpR op_eq (pv 4) pe_int (nomark _))
        (pss_one (ps_ret (pe_op op_add_str (pe_slice sl_str (pv 0) po_none (po_some (pv 5))) (pe_slice sl_str (pv 0) (po_some (pe_op op_add (pv 5) pe_int)) po_none))))
        pss_nil)
        (pss_cons (ps_if (pt_cmpR op_eq (pv 4) pe_int (nomark _))
        (pss_one (ps_ret (pe_op op_add_str (pe_op op_add_str (pe_slice sl_str (pv 0) po_none (po_some (pv 5))) (pv 6)) (pe_slice sl_str (pv 0) (po_some (pe_op op_add (pv 5) pe_int)) po_none))))
        pss_nil)
        (pss_cons (ps_if (pt_cmpR op_eq (pv 4) pe_int (nomark _))
        (pss_one (ps_ret (pe_op op_add_str (pe_op op_add_str (pe_slice sl_str (pv 0) po_none (po_some (pv 5))) (pv 6)) (pe_slice sl_str (pv 0) (po_some (pv 5)) po_none))))
        pss_nil)
        (pss_one (ps_ret (pv 0))))))))))))))), ?_⟩
    obtain ⟨rows, hrows⟩ : ∃ rows, rows = Txt.split t "\n" := ⟨_, rfl⟩
    have hW : W rows = t.length + 1 := by rw [hrows]; exact W_split t
    refine q_asgL (xs := rows.map V.str) (by rw [hrows]; exact el_split (ev_var rfl) ev_c (by decide) (Nat.le_trans (show t.length + 2 ≤ 1000000 by omega) (by decide))) fun la H1 nl e1 hl => ?_
    have ne : rows ≠ [] := by rw [hrows]; exact split_ne (s := 10) (by decide) (by decide +kernel)
    have pos : 0 < rows.length := List.length_pos_iff.mpr ne
    have rlen : rows.length ≤ 400001 := by have := len_le_W rows; omega
    obtain ⟨at_, hat⟩ : ∃ at_, at_ = mix / 8 % (rows.length : Int) := ⟨_, rfl⟩
    refine q_asg (v := .int at_) (ev_is (ev_op (ev_op (ev_var rfl) ev_c (rv_I ⟨by decide, by decide⟩)) (ev_is (ev_len (K := K) (ev_var rfl) (.of hl)) (by rw [List.length_map])) (rv_I (by omega))) (by rw [hat])) fun H2 e2 => ?_
    refine q_asg (v := .int (mix % 8)) (ev_op (ev_var rfl) ev_c (rv_I (by decide))) fun H3 e3 => ?_
    have e03 := e1.trans (e2.trans e3)
    have hl3 := e3 _ _ (e2 _ _ hl)
    have at0 : 0 ≤ at_ := by rw [hat]; exact Int.emod_nonneg _ (by omega)
    have sl : ∀ {Hx : Hp} {σ : L2.St} {tl th : TO} {lo hi : Option Int}, Ex H3 Hx → σ[2]? = some (some (.ref la)) → EvO tl σ Hx lo → EvO th σ Hx hi → EvL (tSl (rSlL K) (tVar 2) tl th) σ Hx ((cutR rows lo hi).map V.str) := fun {Hx σ tl th lo hi} e g h1 h2 => by
      rw [← cutV_map]
      exact el_sl (ev_var g) h1 h2 (.of (e _ _ hl3))
    have mem : ∀ {lo hi : Option Int}, ∀ r ∈ cutR rows lo hi, r ∈ Txt.split t "\n" := fun {lo hi} r hr => by rw [← hrows]; exact cutR_mem hr
    have wc : ∀ {lo hi : Option Int}, W (cutR rows lo hi) ≤ t.length + 1 := fun {lo hi} => by rw [← hW]; exact W_cutR _ _ _
    have lc : ∀ {lo hi : Option Int}, (cutR rows lo hi).length ≤ 400001 := fun {lo hi} => Nat.le_trans (len_le_W _) (Nat.le_trans wc (by omega))
    have way : ∀ {k : Int} {Hx : Hp} {σ : L2.St}, σ[4]? = some (some (.int (mix % 8))) → EvT (tTest (tOp rEq (tVar 4) (tC (.int k)))) σ Hx (decide (mix % 8 = k)) := fun {k Hx σ} g => et_is (et_test (ev_op (ev_var g) ev_c (rv_eq rfl))) (decide_eq_decide.mpr ⟨fun z => V.int.inj z, fun z => congrArg V.int z⟩)
    have wb : W [badOf (mix / 64)] ≤ 101 := by
      show (badOf (mix / 64)).length + 1 + 0 ≤ 101
      have := (bad_ok (mix / 64)).2.1
      omega
    refine q_when (way rfl) (fun hb H4 e4 => s_ret (ev_joinN ev_c (el_cat2 (sl e4 rfl eo_none (eo_some (ev_var rfl))) (sl e4 rfl (eo_some (ev_op (ev_var rfl) ev_c rv_I0)) eo_none) (by have := lc (lo := none) (hi := some at_); have := lc (lo := some (at_ + 1)) (hi := none); omega)) ?_) fun H5 e5 => q _ H5 ?_ (e03.trans (e4.trans e5))) fun hb H4 e4 => ?_
    · rw [sum_W, W_app]
      have := wc (lo := none) (hi := some at_)
      have := wc (lo := some (at_ + 1)) (hi := none)
      omega
    · have z := chg_rows (A := cutR rows none (some at_)) (N := []) (C := cutR rows (some (at_ + 1)) none) asc mem mem (by have := wc (lo := none) (hi := some at_); have := wc (lo := some (at_ + 1)) (hi := none); omega) (.inl rfl)
      rw [List.append_nil] at z
      exact z
    refine q_when (way rfl) (fun hb H5 e5 => s_ret (ev_joinN (ys := (cutR rows none (some at_) ++ cutR rows (some at_) (some (at_ + 1))) ++ cutR rows (some at_) none) ev_c (el_cat2 (el_cat2 (sl (e4.trans e5) rfl eo_none (eo_some (ev_var rfl))) (sl (e4.trans e5) rfl (eo_some (ev_var rfl)) (eo_some (ev_op (ev_var rfl) ev_c rv_I0))) (by have := lc (lo := none) (hi := some at_); have := lc (lo := some at_) (hi := some (at_ + 1)); omega)) (sl (e4.trans e5) rfl (eo_some (ev_var rfl)) eo_none) (by rw [List.length_append]; have := lc (lo := none) (hi := some at_); have := lc (lo := some at_) (hi := some (at_ + 1)); have := lc (lo := some at_) (hi := none); omega)) ?_) fun H9 e9 => q _ H9 ?_ (e03.trans (e4.trans (e5.trans e9)))) fun hb H5 e5 => ?_
    · rw [sum_W, W_app, W_app]
      have := wc (lo := none) (hi := some at_); have := wc (lo := some at_) (hi := some (at_ + 1)); have := wc (lo := some at_) (hi := none); omega
    · have z := chg_rows (A := cutR rows (none) (some at_) ++ cutR rows (some at_) (some (at_ + 1))) (N := []) (C := cutR rows (some at_) (none)) asc (fun r hr => (List.mem_append.mp hr).elim (mem r) (mem r)) mem (by rw [W_app]; have := wc (lo := none) (hi := some at_); have := wc (lo := some at_) (hi := some (at_ + 1)); have := wc (lo := some at_) (hi := none); omega) (.inl rfl)
      rw [List.append_nil] at z
      exact z
    refine q_when (way rfl) (fun hb H6 e6 => s_ret (ev_joinN (ys := (cutR rows none (some at_) ++ [badOf (mix / 64)]) ++ cutR rows (some (at_ + 1)) (none)) ev_c (el_cat2 (el_cat2 (sl (e4.trans (e5.trans e6)) rfl eo_none (eo_some (ev_var rfl))) (el_lst (ea_cons (ev_callR (ea_cons (ev_op (ev_var rfl) ev_c (rv_I ⟨by decide, by decide⟩)) ea_nil) fun H1 e1 => ⟨mix / 64, rfl, rfl⟩) ea_nil) (by show 1 ≤ 100000; decide)) (by have := lc (lo := none) (hi := some at_); show _ + 1 ≤ _; omega)) (sl (e4.trans (e5.trans e6)) rfl (eo_some (ev_op (ev_var rfl) ev_c rv_I0)) eo_none) (by rw [List.length_append]; have := lc (lo := none) (hi := some at_); have := lc (lo := some (at_ + 1)) (hi := none); show _ + 1 + _ ≤ _; omega)) ?_) fun H9 e9 => q _ H9 (chg_rows (A := cutR rows (none) (some at_)) (N := [badOf (mix / 64)]) (C := cutR rows (some (at_ + 1)) (none)) asc mem mem (by have := wc (lo := none) (hi := some at_); have := wc (lo := some (at_ + 1)) (hi := none); omega) (.inr ⟨_, rfl, bad_ok _⟩)) ?_) fun hb H6 e6 => ?_
    · rw [sum_W, W_app, W_app]
      have := wc (lo := none) (hi := some at_); have := wc (lo := some (at_ + 1)) (hi := none); omega
    · exact e03.trans (e4.trans (e5.trans (e6.trans e9)))
    refine q_when (way rfl) (fun hb H7 e7 => s_ret (ev_joinN (ys := (cutR rows none (some at_) ++ [badOf (mix / 64)]) ++ cutR rows (some at_) (none)) ev_c (el_cat2 (el_cat2 (sl (e4.trans (e5.trans (e6.trans e7))) rfl eo_none (eo_some (ev_var rfl))) (el_lst (ea_cons (ev_callR (ea_cons (ev_op (ev_var rfl) ev_c (rv_I ⟨by decide, by decide⟩)) ea_nil) fun H1 e1 => ⟨mix / 64, rfl, rfl⟩) ea_nil) (by show 1 ≤ 100000; decide)) (by have := lc (lo := none) (hi := some at_); show _ + 1 ≤ _; omega)) (sl (e4.trans (e5.trans (e6.trans e7))) rfl (eo_some (ev_var rfl)) eo_none) (by rw [List.length_append]; have := lc (lo := none) (hi := some at_); have := lc (lo := some at_) (hi := none); show _ + 1 + _ ≤ _; omega)) ?_) fun H9 e9 => q _ H9 (chg_rows (A := cutR rows (none) (some at_)) (N := [badOf (mix / 64)]) (C := cutR rows (some at_) (none)) asc mem mem (by have := wc (lo := none) (hi := some at_); have := wc (lo := some at_) (hi := none); omega) (.inr ⟨_, rfl, bad_ok _⟩)) ?_) fun hb H7 e7 => ?_
    · rw [sum_W, W_app, W_app]
      have := wc (lo := none) (hi := some at_); have := wc (lo := some at_) (hi := none); omega
    · exact e03.trans (e4.trans (e5.trans (e6.trans (e7.trans e9))))
    have e07 := e03.trans (e4.trans (e5.trans (e6.trans e7)))
    have tls : t.length ≤ sizeLine := Nat.le_trans (show t.length ≤ 1000000 by omega) (by decide)
    obtain ⟨k, hk⟩ : ∃ k : Nat, (k : Int) = mix / 8 % ((t.length : Int) + 1) := ⟨(mix / 8 % ((t.length : Int) + 1)).toNat, by have := Int.emod_nonneg (mix / 8) (show ((t.length : Int) + 1) ≠ 0 by omega); omega⟩
    have kl : k ≤ t.length := by have := Int.emod_lt_of_pos (mix / 8) (show (0 : Int) < (t.length : Int) + 1 by omega); omega
    refine q_asg (v := .int k) (ev_is (ev_op (ev_op (ev_var rfl) ev_c (rv_I ⟨by decide, by decide⟩)) (ev_op (ev_lenS (ev_var rfl) tls) ev_c rv_I0) (rv_I (by omega))) (by rw [hk])) fun H8 e8 => ?_
    have s0 : 0 ≤ mix / 64 % 10 := Int.emod_nonneg _ (by decide)
    have s1 : mix / 64 % 10 < 10 := Int.emod_lt_of_pos _ (by decide)
    obtain ⟨sg, hsg, hat2⟩ : ∃ sg, sg ∈ ("0 1a\nf9.-z" : Str).cps.toList ∧ atI ("0 1a\nf9.-z" : Str).cps.toList (mix / 64 % 10) = some sg := by
      have l10 : ("0 1a\nf9.-z" : Str).cps.toList.length = 10 := by decide +kernel
      have e : (((mix / 64 % 10).toNat : Nat) : Int) = mix / 64 % 10 := by omega
      have hk : (mix / 64 % 10).toNat < ("0 1a\nf9.-z" : Str).cps.toList.length := by rw [l10]; omega
      refine ⟨_, List.getElem_mem hk, ?_⟩
      have z := atI_nat (List.getElem?_eq_getElem hk)
      rw [e] at z
      exact z
    have sg1 : sg < 128 := (show ∀ c ∈ ("0 1a\nf9.-z" : Str).cps.toList, c < 128 by decide +kernel) sg hsg
    refine q_asg (v := .str ⟨#[sg]⟩) (ev_op ev_c (ev_op (ev_op (ev_var rfl) ev_c (rv_I ⟨by decide, by decide⟩)) ev_c (rv_I (by decide))) (rv_ixS (by decide) hat2)) fun H9 e9 => ?_
    have e09 := e07.trans (e8.trans e9)
    have c1 := cutS_length t none (some (k : Int))
    have c2 := cutS_length t (some (k : Int)) none
    have c3 := cutS_length t (some ((k : Int) + 1)) none
    have ek : ((k : Int) + 1) = ((k + 1 : Nat) : Int) := by omega
    have l1 : (⟨#[sg]⟩ : Str).length = 1 := rfl
    have f1 := cut_front t k kl
    have f2 := cut_back t k
    have f3 := cut_back t (k + 1)
    rw [← ek] at f3
    have ap : ∀ a b : Str, (a ++ b).cps.toList = a.cps.toList ++ b.cps.toList := fun a b => TL.tl_append a b
    refine q_when (way rfl) (fun hb HA eA => s_ret (ev_op (ev_slS (ev_var rfl) eo_none (eo_some (ev_var rfl)) tls) (ev_slS (ev_var rfl) (eo_some (ev_op (ev_var rfl) ev_c rv_I0)) eo_none tls) (rv_addL (by omega))) fun HB eB => q _ HB (chg_signs (k := k) (x := []) asc kl _ (.inr rfl) (.inl rfl) (by rw [ap, f1, f3]; rfl)) (e09.trans (eA.trans eB))) fun hb HA eA => ?_
    refine q_when (way rfl) (fun hb HB eB => s_ret (ev_op (ev_op (ev_slS (ev_var rfl) eo_none (eo_some (ev_var rfl)) tls) (ev_var rfl) (rv_addL (by omega))) (ev_slS (ev_var rfl) (eo_some (ev_op (ev_var rfl) ev_c rv_I0)) eo_none tls) (rv_addL (by rw [len_app]; omega))) fun HC eC => q _ HC (chg_signs (k := k) (x := [sg]) asc kl _ (.inr rfl) (.inr ⟨sg, rfl, sg1⟩) (by rw [ap, ap, f1, f3, List.append_assoc])) (e09.trans (eA.trans (eB.trans eC)))) fun hb HB eB => ?_
    refine q_when (way rfl) (fun hb HC eC => s_ret (ev_op (ev_op (ev_slS (ev_var rfl) eo_none (eo_some (ev_var rfl)) tls) (ev_var rfl) (rv_addL (by omega))) (ev_slS (ev_var rfl) (eo_some (ev_var rfl)) eo_none tls) (rv_addL (by rw [len_app]; omega))) fun HD eD => q _ HD (chg_signs (k := k) (x := [sg]) asc kl _ (.inl rfl) (.inr ⟨sg, rfl, sg1⟩) (by rw [ap, ap, f1, f2, List.append_assoc])) (e09.trans (eA.trans (eB.trans (eC.trans eD))))) fun hb HC eC => ?_
    exact s_ret (ev_var rfl) fun HD eD => q _ HD (chg_same asc) (e09.trans (eA.trans (eB.trans (eC.trans eD))))
end
end LW

namespace LW
open PySem PySem.Spec PyProof.Rows L2 Evl HB HS MB HW HM HI PI MC HJ HG PS PT MD GX MX RH DC RP RQ RM RL RS RT RX RY RZ RA SP SQ TX RD RK RF RG RN RO RV
section
variable {P : Program} {w : World} {K : PySem.W.Frag} {mg : Str → Option Value} {base : Heap}
/-! ### _law_told_lamps -/
def spTold : Sp := fun vs H Q _ => ∃ (m : Addr) (R : List CRow) (ls : List Str), vs = [.ref m] ∧ MAt H m R ∧ H m = some (.dK (mkv R)) ∧ Good ls (bk R) ∧ ls.length ≤ 60 ∧
  ∀ a qs H', H a = none → Ex H H' → H' a = some (.lst (qs.map V.str)) → Asked qs (bk R) → Q (.ref a) H'
theorem red_ok : LampOk "red" := ⟨by decide, by decide, by decide +kernel⟩
theorem ok_law_told_lamps (T : Top K mg) : Dn P w K mg base "_law_told_lamps" 1 ["_law_model"] spTold := by
  refine T.d__law_told_lamps.ok sc_law_told_lamps (fun vs H Q E h => ?_) (fun f cdv A outer s H vs Q E hr h => ?_)
  · obtain ⟨m, R, ls, rfl, _⟩ := h
    rfl
  · obtain ⟨m, R, ls, rfl, hM, hD, gd, few, q⟩ := h
    have hu := hu_of hr
    have hu64 := hr.units
    refine ⟨_, (pss_cons (ps_set (i := 1) sc_law_told_lamps.nd rfl (.inr rfl) (pe_lst (pa_cons pe_str pa_nil)))
        (pss_cons (ps_lock (ps_for PassesOwn.never rfl (pi_keys (pv 0)) (pg_name (i := 2) sc_law_told_lamps.nd rfl (.inl rfl))
        (pss_one (ps_set (i := 1) sc_law_told_lamps.nd rfl (.inr rfl) (pe_op op_cat (pv 1) (pe_lock (pe_lc (own := [("_law_lamp", 3)]) (g := gName 3) (by rfl) sc_law_told_lamps.nd (pi_keys (pe_ix (r := rIxL K) ix_list (pe_dget hu (pv 0) (pv 2) (fun _ _ => rfl)) pe_int (fun _ _ => rfl))) (blkOk_by (own := [("_law_lamp", 3)]) (N := ns_law_told_lamps) (sc := defScope s_law_told_lamps) (by decide +kernel)) (fun _ _ _ _ _ => (pg_name (i := 3) sc_law_told_lamps.nd rfl (.inl rfl))) (fun _ _ _ _ _ => (pts_one (pt_cmpR (r := rIn K true) op_notIn_seq (pv 3) (pv 1) rfl))) (fun _ _ _ _ _ => (pv 3)))))))))
        (pss_one (ps_ret (pv 1))))), ?_⟩
    refine q_asgL (xs := [V.str "red"]) (el_lst (ea_cons ev_c ea_nil) (by show 1 ≤ 100000; decide)) fun a H1 na e1 ha => ?_
    have nam : a ≠ m := fun z => by rw [z, hD] at na; cases na
    refine q_forKeys (e1 _ _ hD) (fun H2 => ev_var rfl) (fun o i σ' H' => ∃ (a : Addr) (qs : List Str) (y2 : Option V), σ' = [some (.ref m), some (.ref a), y2, none] ∧ Ex (upd H m (.frz o (.dK (mkv R)))) H' ∧ H a = none ∧ a ≠ m ∧ H' a = some (.lst (qs.map V.str)) ∧ qs.Nodup ∧ (∀ l ∈ qs, l = "red" ∨ l ∈ ls) ∧ ∀ (j : Nat) r, j < i → R[j]? = some r → ∀ x ∈ r.c.ws, x.1 ∈ qs)
      (fun o => ⟨a, [("red" : Str)], none, rfl, fun b u hb => by
        by_cases z : b = m
        · rw [z, upd_same] at hb ⊢; exact hb
        · rw [upd_ne z] at hb ⊢; exact e1 _ _ hb, na, nam, by rw [upd_ne nam]; exact ha, List.nodup_cons.mpr ⟨List.not_mem_nil, List.nodup_nil⟩, fun l hl => .inl (List.mem_singleton.mp hl), fun j r hj => absurd hj (Nat.not_lt_zero _)⟩) (fun o i σ' H' ⟨_, _, _, _, e, _⟩ => e _ _ upd_same)
      (fun o σ' Ha Hb e ⟨a, qs, y2, h, k, k1, k2, k3, k4⟩ => ⟨a, qs, y2, h, k.trans e, k1, k2, e _ _ k3, k4⟩) (fun o i k x σ' H' hx => ?_) fun o σ' H' => ?_
    · rintro ⟨a, qs, y2, rfl, e, na, nam, ha, nd, sub, cov⟩
      have hx2 := hx
      obtain ⟨r, hr0, rfl, rfl⟩ := mkv_at hx
      have hri : R[i]? = some r := by
        unfold mkv at hx2
        rw [List.getElem?_map] at hx2
        obtain ⟨r2, h2, e2⟩ := Option.map_eq_some_iff.mp hx2
        have en : r2.c.n = r.c.n := Sum.inl.inj (congrArg Prod.fst e2)
        rw [h2, nodup_at (nd_n hM.nd) (List.mem_of_getElem? h2) hr0 en]
      have hM2 := (hM.lock hD o).ex e
      have hcB : r.c ∈ bk R := List.mem_map.mpr ⟨r, hr0, rfl⟩
      have hv : valV (mkv R) (.inl r.c.n) = some (.ref r.la) := by
        obtain ⟨r2, h2, e2, _, v2⟩ := row_of (cueAt_of gd.nd hcB)
        rw [v2, nodup_at (nd_n hM.nd) h2 hr0 (by rw [e2])]
      have wfew := words_few gd hcB
      have gc := gd.cue _ hcB
      obtain ⟨d0, hd0⟩ : ∃ d0 : Str × Int, d0 = (Str.empty, 0) := ⟨_, rfl⟩
      have hxs : (((r.c.ws.filter fun x => !decide (x.1 ∈ qs)).map (·.1)).map V.str) = given (wkv r.c.ws).length (fun i => !decide ((r.c.ws.getD i d0).1 ∈ qs)) (fun i => V.str (r.c.ws.getD i d0).1) := by
        rw [wkv_len, List.map_map]
        exact (given_of d0 r.c.ws (fun x => !decide (x.1 ∈ qs)) (fun x => V.str x.1)).symm
      have at_ : ∀ {i : Nat} {k : Key} {x : V}, (wkv r.c.ws)[i]? = some (k, x) → k = .inr (r.c.ws.getD i d0).1 := fun {i k x} h => by
        unfold wkv at h
        rw [List.getElem?_map] at h
        obtain ⟨y, hy, ey⟩ := Option.map_eq_some_iff.mp h
        rw [getD_of d0 hy]
        exact (congrArg Prod.fst ey).symm
      have qlen : qs.length ≤ 61 := by
        have := nodup_len (ls := ("red" : Str) :: ls) nd fun l hl => (sub l hl).elim (fun z => by rw [z]; exact List.mem_cons_self) fun z => List.mem_cons_of_mem _ z
        simp only [List.length_cons] at this
        omega
      have naw : a ≠ r.wa := fun z => by
        have := (hM.row r hr0).2
        rw [← z, na] at this
        cases this
      refine s_asgL (xs := (qs ++ (r.c.ws.filter fun x => !decide (x.1 ∈ qs)).map (·.1)).map V.str) (by
        rw [List.map_append]
        refine el_cat (ev_var rfl) ha (el_lock (hM2.row r hr0).2 trivial fun H6 o6 e6 => ?_) (by rw [List.length_map, List.length_map, List.length_map]; have := List.length_filter_le (fun x : Str × Int => !decide (x.1 ∈ qs)) r.c.ws; omega)
        rw [hxs]
        refine el_lcKeys (kvs := wkv r.c.ws) (o := o6) _ _ ?_ upd_same (by rw [wkv_len]; omega) (fun _ => rfl) (fun i k v H7 e7 hk => by
          rw [at_ hk]
          exact et_test (ev_is (ev_op (ev_var rfl) (ev_var rfl) (rv_inL (K := K) (neg := true) (.of (e7 _ _ (by rw [upd_ne naw]; exact e6 _ _ ha))) rfl (flat_strs _))) (by show V.bl (!inV (V.str (r.c.ws.getD i d0).1) (qs.map V.str)) = _; rw [inV_strs]))) fun i k v H7 e7 hk _ => by
          rw [at_ hk]
          exact ev_var rfl
        obtain ⟨k1, k2⟩ := (hM2.ex e6).row r hr0
        have nlw : r.la ≠ r.wa := fun z => by rw [z, k2] at k1; cases k1
        exact ev_ixK (K := K) (ev_dget (k := .inl r.c.n) (ev_var rfl) (ev_var rfl) (rd_upd (Ne.symm (hM.mw r hr0)) (hM2.ex e6).dct) hv) ev_c (.of (by rw [upd_ne nlw]; exact k1)) rfl) fun p H5 np e5 hp => ?_
      have nH : ∀ {b : Addr}, H' b = none → H b = none ∧ b ≠ m := fun {b} hb => by
        have h := fresh_back e hb
        have nb : b ≠ m := fun z => by rw [z, upd_same] at h; cases h
        rw [upd_ne nb] at h
        exact ⟨h, nb⟩
      refine ⟨p, _, _, rfl, e.trans e5, (nH np).1, (nH np).2, hp, ?_, fun l hl => ?_, fun j r2 hj hr2 x hx => ?_⟩
      · refine List.nodup_append.mpr ⟨nd, List.Nodup.sublist (List.filter_sublist.map _) gc.nd, fun l hl k hk z => ?_⟩
        obtain ⟨x, hx, rfl⟩ := List.mem_map.mp hk
        have h := (List.mem_filter.mp hx).2
        rw [← z, decide_eq_true hl] at h
        exact absurd h (by decide)
      · rcases List.mem_append.mp hl with hl | hl
        · exact sub l hl
        · obtain ⟨x, hx, rfl⟩ := List.mem_map.mp hl
          exact .inr (gd.lam _ hcB x (List.mem_filter.mp hx).1)
      · by_cases e : j < i
        · exact List.mem_append_left _ (cov j r2 e hr2 x hx)
        · have ej : j = i := by omega
          rw [ej, hri] at hr2
          cases hr2
          by_cases hq : x.1 ∈ qs
          · exact List.mem_append_left _ hq
          · exact List.mem_append_right _ (List.mem_map.mpr ⟨x, List.mem_filter.mpr ⟨hx, by rw [decide_eq_false hq]; rfl⟩, rfl⟩)
    · rintro ⟨a, qs, y2, rfl, e, na, nam, ha, nd, sub, cov⟩
      have eB : Ex H (upd H' m (.dK (mkv R))) := by
        intro b u hb
        by_cases z : b = m
        · rw [z] at hb ⊢
          rw [upd_same, ← hD, hb]
        · rw [upd_ne z]
          exact e _ _ (by rw [upd_ne z]; exact hb)
      refine s_ret (ev_var rfl) fun H5 e5 => q a qs H5 na (eB.trans e5) (e5 _ _ (by rw [upd_ne nam]; exact ha)) ⟨fun l hl => (sub l hl).elim (fun z => by rw [z]; exact red_ok) (gd.ok l), fun c hc x hx => ?_, ?_⟩
      · obtain ⟨r, hr0, rfl⟩ := List.mem_map.mp hc
        obtain ⟨j, hj, ej⟩ := List.getElem_of_mem hr0
        have hl : (mkv R).length = R.length := List.length_map _
        exact cov j r (by rw [hl]; exact hj) (by rw [List.getElem?_eq_getElem hj, ej]) x hx
      · have := nodup_len (ls := ("red" : Str) :: ls) nd fun l hl => (sub l hl).elim (fun z => by rw [z]; exact List.mem_cons_self) fun z => List.mem_cons_of_mem _ z
        simp only [List.length_cons] at this
        omega
end
end LW

namespace LW
open PySem PySem.Spec PyProof.Rows L2 Evl HB HS MB HW HM HI PI MC HJ HG PS PT MD GX MX RH DC RP RQ RM RL RS RT RX RY RZ RA SP SQ TX RD RK RF RG RN RO RV
section
variable {P : Program} {w : World} {K : PySem.W.Frag} {mg : Str → Option Value} {base : Heap} {eNoCue eTaken eTooMany eNoLamp eNoLevel eNoTime eNoText cCue cPlay cReader eCueError c Pt fs c2 Pt2 fs2 : Addr} {fds fds2 : FuncData} {At : AtT}
/-! ### _law_tried -/
def spLtried (At : AtT) : Sp := fun vs H Q _ => ∃ (t last : Str) (rs ls : List Str), vs = [.str t] ∧ (∀ b, At.tb b → TabX H b) ∧ (∀ l ∈ ls, LampOk l) ∧ ls.length < 64 ∧ t.length ≤ 900000 ∧ rs.length ≤ 100000 ∧ Txt.split t "\n" = rs ++ [last] ∧ AllG ls rs s0 ∧
  (∀ s, goT rs 0 s0 = .inl s → last = Str.empty → ∀ p fp H', At H' p ls s.B fp → (∀ b, fp b → H b = none) → Ex H H' → Q (.ref p) H') ∧ (∀ s, goT rs 0 s0 = .inl s → last ≠ Str.empty → ∀ H', Ex H H' → Q (.int rs.length) H') ∧ ∀ i, goT rs 0 s0 = .inr i → i < rs.length → ∀ H', Ex H H' → Q (.int i) H'
theorem ok_law_tried (T : Top K mg) (G : Prg K mg eNoCue eTaken eTooMany eNoLamp eNoLevel eNoTime eNoText cCue cPlay cReader) (L : Pl P w K mg base cPlay At) (U : RdU P w K mg base cPlay At (putE eNoCue eTaken eNoTime eTooMany) (askE eNoCue eNoLamp eNoLevel)) (EX : Exs K mg eCueError eNoCue eTaken eTooMany eNoLamp eNoLevel eNoTime) (NT : NumT K mg base c2 Pt2 fs2 fds2) (htb : At.tb Pt2) (N : NoTx K mg eCueError eNoText) (NK : KindF K eNoText 6 eNoCue eTaken eTooMany eNoLamp eNoLevel eNoTime eNoText eCueError) :
    Dn P w K mg base "_law_tried" 25 ["_law_text_here"] (spLtried At) := by
  refine T.d__law_tried.ok sc_law_tried (fun vs H Q E h => ?_) (fun f cdv A outer s H vs Q E hr h => ?_)
  · obtain ⟨t, last, rs, ls, rfl, _⟩ := h
    rfl
  · obtain ⟨t, last, rs, ls, rfl, tabs, lok, few, tl, rl, hsp, hG, q1, q2, q3⟩ := h
    have hu := hu_of hr
    have hu64 := hr.units
    refine ⟨_, (pss_cons (ps_set (i := 1) sc_law_tried.nd rfl (.inl rfl) pe_non)
        (pss_cons (ps_set (i := 2) sc_law_tried.nd rfl (.inl rfl) pe_non)
        (pss_cons (ps_try_val (i := 3) rfl rfl sc_law_tried.nd rfl rfl rfl ⟨by rfl, by decide, .inl EX.g_CueError⟩ takes0 (fun W pn xe tk _ =>
        (pss_one (ps_set (i := 2) sc_law_tried.nd rfl (.inl rfl) (pe_dnS (ok_read T G L U EX NT htb N) (hr.mono (by decide)) (by rfl) (fun σ => passAt tk σ) (pa_cons (pv 0) pa_nil))))) (fun a oe cls d pn hz hf =>
        (pss_one (ps_set (i := 1) sc_law_tried.nd rfl (.inl rfl) (pv 3)))))
        (pss_cons (ps_if (pt_cmpR op_isN (pv 1) pe_non (nomark _))
        (pss_one (ps_ret (pv 2)))
        pss_nil)
        (pss_cons (ps_if (PW.pt (pw_or (pt_cmpR op_ne (pe_dn (ok_law_class T G N EX NK) (hr.mono (by decide)) (by rfl) (pa_cons (pv 1) pa_nil)) pe_str (nomark _)) (pw_or1 (pt_not (pt_val (pe_dn (ok_law_whole T) (hr.mono (by decide)) (by rfl) (pa_cons (RK.pe_xv (pv 1)) pa_nil)))))))
        (pss_one (ps_ret (pe_un un_neg pe_int)))
        pss_nil)
        (pss_one (ps_ret (RK.pe_xv (pv 1))))))))), ?_⟩
    have isN : ∀ {σ : L2.St} {H : Hp} {i : Nat} {x : V} {b : Bool}, σ[i]? = some (some x) → decide (x = .non) = b → EvT (tTest (tOp (fun x y H Q => y = .non ∧ Q (.bl (decide (x = .non))) H) (tVar i) (tC .non))) σ H b := fun {σ H i x b} h e => et_is (et_test (ev_op (ev_var h) ev_c (rv_val fun H1 _ Q q => ⟨rfl, q⟩))) e
    refine q_asg (v := .non) ev_c fun H1 e1 => ?_
    refine q_asg (v := .non) ev_c fun H2 e2 => ?_
    have e02 := e1.trans e2
    unfold tSeq tAsg tCallS
    refine (ea_cons (ev_var rfl) ea_nil : EvA _ _ H2 [.str t]) _ (Ex.refl _) _ fun H3 e3 => ⟨t, last, rs, ls, rfl, fun b hb => (e02.trans e3) _ _ (tabs b hb), lok, few, by omega, rl, hsp, hG, fun s h1 h2 p fp H' hA new e4 => ?_, fun s h1 h2 => ?_, fun i h1 h2 => ?_⟩
    · unfold gName
      dsimp only
      exact s_when (b := true) (isN (x := .non) rfl rfl) (fun _ H5 e5 => s_ret (ev_var rfl) fun H6 e6 => q1 s h1 h2 p fp H6 (L.ex hA (e5.trans e6)) (fun b hb => fresh_back (e02.trans e3) (new b hb)) ((e02.trans e3).trans (e4.trans (e5.trans e6)))) fun hb => absurd hb (by decide)
    · intro d G eG nd hd
      refine ⟨true, NK.x, fun _ g ng => s_asg (ev_var rfl) fun H5 e5 => ?_, fun h => nomatch h⟩
      have ng0 : G g = none := ng
      have ngd : d ≠ g := fun z => by rw [z, ng0] at hd; cases hd
      have eg : Ex G (upd H5 g (ExV (.ref eNoText) (some d) g)) := Ex.mut e5 ng0
      have ha : (upd H5 g (ExV (.ref eNoText) (some d) g)) g = some (ExV (.ref eNoText) (some d) g) := upd_same
      have hd2 := eg _ _ hd
      have e0g := (e02.trans e3).trans (eG.trans eg)
      refine s_when (b := false) (isN (x := .ref g) rfl (decide_eq_false fun h => nomatch h)) (fun hb => absurd hb (by decide)) fun _ H6 e6 => ?_
      refine s_when (b := false) (et_is (a := !decide (V.str "text" = V.str "text") || !true) (et_or (et_test (ev_op (ev_callR (ea_cons (ev_var rfl) ea_nil) fun H7 e7 => ⟨g, d, _, rfl, e7 _ _ (e6 _ _ ha), e7 _ _ (e6 _ _ hd2), rfl⟩) ev_c (rv_ne rfl))) fun _ => et_not (et_B (ev_callR (ea_cons (ev_xv (ev_var rfl) (e6 _ _ ha) (e6 _ _ hd2) N.xf N.nr rfl) ea_nil) fun H7 e7 => ⟨_, "int", rfl, .int _, rfl⟩))) (by rw [decide_eq_true rfl]; rfl)) (fun hb => absurd hb (by decide)) fun _ H7 e7 => ?_
      exact s_ret (ev_xv (ev_var rfl) (e7 _ _ (e6 _ _ ha)) (e7 _ _ (e6 _ _ hd2)) N.xf N.nr rfl) fun H8 e8 => q2 s h1 h2 H8 (e0g.trans (e6.trans (e7.trans e8)))
    · intro d G eG nd hd
      refine ⟨true, NK.x, fun _ g ng => s_asg (ev_var rfl) fun H5 e5 => ?_, fun h => nomatch h⟩
      have ng0 : G g = none := ng
      have ngd : d ≠ g := fun z => by rw [z, ng0] at hd; cases hd
      have eg : Ex G (upd H5 g (ExV (.ref eNoText) (some d) g)) := Ex.mut e5 ng0
      have ha : (upd H5 g (ExV (.ref eNoText) (some d) g)) g = some (ExV (.ref eNoText) (some d) g) := upd_same
      have hd2 := eg _ _ hd
      have e0g := (e02.trans e3).trans (eG.trans eg)
      refine s_when (b := false) (isN (x := .ref g) rfl (decide_eq_false fun h => nomatch h)) (fun hb => absurd hb (by decide)) fun _ H6 e6 => ?_
      refine s_when (b := false) (et_is (a := !decide (V.str "text" = V.str "text") || !true) (et_or (et_test (ev_op (ev_callR (ea_cons (ev_var rfl) ea_nil) fun H7 e7 => ⟨g, d, _, rfl, e7 _ _ (e6 _ _ ha), e7 _ _ (e6 _ _ hd2), rfl⟩) ev_c (rv_ne rfl))) fun _ => et_not (et_B (ev_callR (ea_cons (ev_xv (ev_var rfl) (e6 _ _ ha) (e6 _ _ hd2) N.xf N.nr rfl) ea_nil) fun H7 e7 => ⟨_, "int", rfl, .int _, rfl⟩))) (by rw [decide_eq_true rfl]; rfl)) (fun hb => absurd hb (by decide)) fun _ H7 e7 => ?_
      exact s_ret (ev_xv (ev_var rfl) (e7 _ _ (e6 _ _ ha)) (e7 _ _ (e6 _ _ hd2)) N.xf N.nr rfl) fun H8 e8 => q3 i h1 h2 H8 (e0g.trans (e6.trans (e7.trans e8)))
end
end LW

namespace LW
open PySem PySem.Spec PyProof.Rows L2 Evl HB HS MB HW HM HI PI MC HJ HG PS PT MD GX MX RH DC RP RQ RM RL RS RT RX RY RZ RA SP SQ TX RD RK RF RG RN RO RV RU
section
variable {P : Program} {w : World} {K : PySem.W.Frag} {mg : Str → Option Value} {base : Heap} {eNoCue eTaken eTooMany eNoLamp eNoLevel eNoTime eNoText cCue cPlay cReader eCueError c Pt fs c2 Pt2 fs2 : Addr} {fds fds2 : FuncData} {At : AtT}
/-- a play is no int -/
structure NInt (K : PySem.W.Frag) (C : Addr) : Prop where
  ha : PySem.W.findIn K (.ref C) "__class__" = some (some (.builtin "object.__class__"))
  hn : PySem.W.specialIn K (.builtin "object.__class__") "__get__" = some (some (.builtin "getset_descriptor.__get__"))
  ht : PySem.W.takesIn K (.builtin "object.__class__") = some true
  hm : PySem.W.mroIn K C (.type "object") = some true
  ki : PySem.W.kitOne K (.ref C) (.type "int") = some false
theorem ev_isiP {σ : L2.St} {H : Hp} {te tc : TE} {C p dx : Addr} {fs : List (Str × V)} (NI : NInt K C) (cl : Cls K C) (h : Ev te σ H (.ref p)) (hc : Ev tc σ H (.ty "int")) (ho : H p = some (.ins C dx fs)) : Ev (tCB (rIsi K) (tCons te (tCons tc tNil))) σ H (.bl false) :=
  ev_cb (ea_cons h (ea_cons hc ea_nil)) fun H1 e _ q => ⟨.ref p, .ty "int", .ref C, .type "int", false, rfl, .ty "int", .base (.ins (e _ _ ho) cl NI.ha NI.hn NI.ht NI.hm), NI.ki, q H1 (Ex.refl H1)⟩
theorem cut_take (xs : List V) (k : Nat) : ∀ x ∈ cutV xs none (some (k : Int)), x ∈ xs := fun x hx => mem_cutV hx
/-! ### law -/
theorem ok_law {f : Addr} {fd : FuncData} (T : Top K mg) (L : Pl P w K mg base cPlay At) (hL : At.full) (hM : At.more) (G : Prg K mg eNoCue eTaken eTooMany eNoLamp eNoLevel eNoTime eNoText cCue cPlay cReader) (U : RdU P w K mg base cPlay At (putE eNoCue eTaken eNoTime eTooMany) (askE eNoCue eNoLamp eNoLevel)) (EX : Exs K mg eCueError eNoCue eTaken eTooMany eNoLamp eNoLevel eNoTime) (NT : NumT K mg base c2 Pt2 fs2 fds2) (htb : At.tb Pt2) (N : NoTx K mg eCueError eNoText) (NK : KindF K eNoText 6 eNoCue eTaken eTooMany eNoLamp eNoLevel eNoTime eNoText eCueError) (NI : NInt K cPlay)
    (F : Fun K "law" "law" slaw f fd) : FnOk P w K mg base CX0 26 f fd ["_law_script"] (spLaw K At.tb) := by
  refine F.ok sclaw (fun vs H Q E h => ?_) (fun cdv A outer s H vs Q E hr h => ?_)
  · obtain ⟨a, xs, rfl, _⟩ := h
    rfl
  · obtain ⟨sc, xs, rfl, hsc, hlen, tabs, q⟩ := h
    have hu := hu_of hr
    have hu64 := hr.units
    refine ⟨_, (pss_cons (ps_for PassesOwn.never rfl (pi_enum (by rfl) T.z_enumerate (pa_cons (pe_slice sl_list (pv 0) po_none (po_some pe_int)) pa_nil)) (pg_tup rfl (pgs_cons (pg_name (i := 1) sclaw.nd rfl (.inl rfl)) (pgs_cons (pg_name (i := 2) sclaw.nd rfl (.inl rfl)) pgs_nil)))
        (pss_cons (ps_asg (pe_dn (ok_law_built T L hL hM) (hr.mono (by decide)) (by rfl) (pa_cons (pv 0) (pa_cons (pv 1) (pa_cons (pe_op op_mod (pv 2) pe_int) pa_nil)))) (pg_tup rfl (pgs_cons (pg_name (i := 3) sclaw.nd rfl (.inl rfl)) (pgs_cons (pg_name (i := 4) sclaw.nd rfl (.inl rfl)) (pgs_cons (pg_name (i := 5) sclaw.nd rfl (.inl rfl)) (pgs_cons (pg_name (i := 6) sclaw.nd rfl (.inl rfl)) pgs_nil))))))
        (pss_cons (ps_set (i := 7) sclaw.nd rfl (.inl rfl) (pe_dn (ok_law_mixed T) (hr.mono (by decide)) (by rfl) (pa_cons (pv 2) (pa_cons (pe_op op_add pe_int (pv 1)) pa_nil))))
        (pss_cons (ps_set (i := 8) sclaw.nd rfl (.inl rfl) (pe_dn (ok_law_changed T) (hr.mono (by decide)) (by rfl) (pa_cons (pe_dn (ok_law_text T) (hr.mono (by decide)) (by rfl) (pa_cons (pv 4) pa_nil)) (pa_cons (pv 7) pa_nil))))
        (pss_cons (ps_if (PW.pt (pw_and (pt_cmpR op_eq (pv 1) pe_int (nomark _)) (pw_and1 (pt_cmpR op_eq (pe_op op_mod (pv 2) pe_int) pe_int (nomark _)))))
        (pss_one (ps_set (i := 8) sclaw.nd rfl (.inl rfl) (pe_join pe_str (pe_lc (own := [("_law_one", 11)]) (g := gName 11) (by rfl) sclaw.nd (pi_range2 (by rfl) T.z_range (pa_cons pe_int (pa_cons (pe_op op_add pe_int (pe_op op_mod (pv 7) pe_int)) pa_nil))) (blkOk_by (own := [("_law_one", 11)]) (N := nslaw) (sc := defScope slaw) (by decide +kernel)) (fun _ _ _ _ _ => (pg_name (i := 11) sclaw.nd rfl (.inl rfl))) (fun _ _ _ _ _ => pts_nil) (fun _ _ _ _ _ => (pe_op op_add_str (pe_op op_add_str pe_str (pe_callTy call_str_int (by rfl) T.z_str (by decide +kernel) (pa_cons (pv 11) pa_nil))) pe_str))))))
        pss_nil)
        (pss_cons (ps_set (i := 9) sclaw.nd rfl (.inl rfl) (pe_dn (ok_law_read T) (hr.mono (by decide)) (by rfl) (pa_cons (pv 8) pa_nil)))
        (pss_cons (ps_set (i := 10) sclaw.nd rfl (.inl rfl) (pe_dn (ok_law_tried T G L U EX NT htb N NK) (hr.mono (by decide)) (by rfl) (pa_cons (pv 8) pa_nil)))
        (pss_one (ps_if (pt_val (pe_callB (r := rIsi K) call_isi (by rfl) T.z_isinstance (by decide +kernel) (pa_cons (pv 9) (pa_cons (pe_ty (T := "int") T.z_int (by rfl) (by decide +kernel)) pa_nil))))
        (pss_one (ps_if (PW.pt (pw_or (pt_not (pt_val (pe_callB (r := rIsi K) call_isi (by rfl) T.z_isinstance (by decide +kernel) (pa_cons (pv 10) (pa_cons (pe_ty (T := "int") T.z_int (by rfl) (by decide +kernel)) pa_nil))))) (pw_or1 (pt_cmpR op_ne (pv 10) (pv 9) (nomark _)))))
        (pss_one (ps_ret pe_bl))
        pss_nil))
        (pss_one (ps_if (PW.pt (pw_or (pt_val (pe_callB (r := rIsi K) call_isi (by rfl) T.z_isinstance (by decide +kernel) (pa_cons (pv 10) (pa_cons (pe_ty (T := "int") T.z_int (by rfl) (by decide +kernel)) pa_nil)))) (pw_or1 (pt_not (pt_val (pe_dn (ok_law_stands T L hL) (hr.mono (by decide)) (by rfl) (pa_cons (pv 10) (pa_cons (pv 9) (pa_cons (pe_dn (ok_law_told_lamps T) (hr.mono (by decide)) (by rfl) (pa_cons (pv 9) pa_nil)) pa_nil)))))))))
        (pss_one (ps_ret pe_bl))
        pss_nil)))))))))))
        (pss_one (ps_ret (pe_cmpR (op_eqD hu64) (PI.pe_dm0 L.numbers L.cls (hr.mono (by decide)) (RK.pe_dnL (ok_read T G L U EX NT htb N) (hr.mono (by decide)) (by rfl) (pa_cons pe_str pa_nil))) (pe_lst pa_nil) (nomark _))))), ?_⟩
    refine q_forEnumN (el_sl (lo := none) (hi := some 30) (ev_var rfl) eo_none (eo_some ev_c) hsc) (fun pl i σ' H' => ∃ y1 y2 y3 y4 y5 y6 y7 y8 y9 y10 y11, σ' = [some (.ref sc), y1, y2, y3, y4, y5, y6, y7, y8, y9, y10, y11] ∧ Ex H H' ∧ H' pl = some (.lst (cutV (xs.map V.int) none (some 30))))
      (fun pl H5 np e5 h5 => ⟨_, _, _, _, _, _, _, _, _, _, _, rfl, e5, h5⟩) (fun pl i σ' H' ⟨_, _, _, _, _, _, _, _, _, _, _, _, _, h⟩ => h) (fun pl i x σ' H' Tt hx => ?_) fun pl σ' H' => ?_
    · rintro ⟨y1, y2, y3, y4, y5, y6, y7, y8, y9, y10, y11, rfl, e0, hpl⟩ nT
      have eT : Ex H' (upd H' Tt (.tup [.int (i : Nat), x])) := Ex.new nT
      generalize upd H' Tt (.tup [.int (i : Nat), x]) = H0 at eT
      obtain ⟨z, _, rfl⟩ := List.mem_map.mp (mem_cutV (List.mem_of_getElem? hx))
      have z0 := Int.emod_nonneg z (show (13 : Int) ≠ 0 by decide)
      have z1 := Int.emod_lt_of_pos z (show (0 : Int) < 13 by decide)
      refine (ea_cons (ev_var (i := 0) rfl) (ea_cons (ev_var (i := 1) rfl) (ea_cons (x := .int (z % 13)) (ev_op (ev_var (i := 2) rfl) ev_c (rv_I (by decide))) ea_nil))) H0 (Ex.refl H0) (fun vs H1 => spLbuilt K At (vs ++ []) H1 _ E0) fun H1 e1 => ?_
      have e01 := e0.trans (eT.trans e1)
      refine ⟨sc, xs, (i : Nat), z % 13, rfl, ex_l e01 hsc, fun b hb => e01 _ _ (tabs b hb), by omega, z0, by omega, fun qt p m a b R fp H2 bt ne0 nq nJq hq => ?_⟩
      obtain ⟨c, hc⟩ : ∃ c, c = mixed (cellOf xs (i : Nat)) 1 := ⟨_, rfl⟩
      obtain ⟨d, hd⟩ : ∃ d, d = mixed (cellOf xs (i : Nat)) 2 := ⟨_, rfl⟩
      rw [← hc, ← hd] at bt
      refine ⟨qt, _, rfl, .of hq, rfl, _, _, rfl, _, _, rfl, _, _, rfl, _, _, rfl, rfl, ?_⟩
      obtain ⟨mx, hmx⟩ : ∃ mx, mx = mixed z (90 + (i : Int)) := ⟨_, rfl⟩
      refine q_asg (v := .int mx) (ev_callS (ea_cons (ev_var rfl) (ea_cons (ev_op ev_c (ev_var rfl) rv_I0) ea_nil)) ⟨_, _, rfl, by rw [hmx]⟩) fun H3 e3 => ?_
      have b3 := bt.mono L e3
      have gd := L.good b3.st.pl
      have l6 : (lampsOf c).length = 6 := by show (List.map _ _).length = 6; rw [List.length_map]; rfl
      have l9 : (bk R).length ≤ 9 := by
        have := nodup_len (ls := numsOf d) b3.st.mat.nd b3.inn
        rw [List.length_map] at this
        exact this
      have ts := text_short gd (by omega) l9
      refine q_asgQ ((ea_cons (ev_callR (R := RText) (z := .str (textB (bk R))) (ea_cons (ev_var rfl) ea_nil) fun H4 e4 => ⟨m, R, lampsOf c, rfl, b3.st.mat.ex e4, gd, rfl⟩) (ea_cons (ev_var rfl) ea_nil)) H3 (Ex.refl H3) (fun vs H1 => spChanged (vs ++ []) H1 _ E0) fun H4 e4 => ⟨textB (bk R), mx, rfl, text_asc gd, by omega, fun u H5 ch e5 => ?_⟩)
      have rd1 := rdy_chg gd (by omega) l9 ch
      obtain ⟨b0, hb0⟩ : ∃ b0, b0 = (decide (V.int ((i : Nat) : Int) = V.int 0) && decide (V.int (z % 8) = V.int 5)) := ⟨_, rfl⟩
      have m30 := Int.emod_nonneg mx (show (3 : Int) ≠ 0 by decide)
      have m31 := Int.emod_lt_of_pos mx (show (0 : Int) < 3 by decide)
      obtain ⟨u2, hu2⟩ : ∃ u2, u2 = if b0 = true then ctext (101 + mx % 3 - 1).toNat else u := ⟨_, rfl⟩
      have rd : Rdy u2 := by
        rw [hu2]
        split
        · exact rdy_cues (by omega)
        · exact rd1
      refine q_ifAsg (b := b0) (v := .str u2) (et_is (et_and (et_test (ev_op (ev_var rfl) ev_c (rv_eq rfl))) fun _ => et_test (ev_op (ev_op (ev_var rfl) ev_c (rv_I (by decide))) ev_c (rv_eq rfl))) hb0.symm) (fun hb => ?_) (fun hb => ?_) fun H6 e6 => ?_
      · rw [hu2, if_pos hb]
        unfold ctext
        have l1 : ("cue " : Str).length = 4 := by decide
        have l2 : (" 0 0\n" : Str).length = 5 := by decide
        have l0 : ("" : Str).length = 0 := by decide
        have sl : ∀ j : Nat, (1 : Int) + j < 101 + mx % 3 → (sI (1 + (j : Int))).length ≤ 7 := fun j hj => sI_len (by omega) (by omega)
        refine ev_joinN ev_c (by
          rw [List.map_map]
          exact el_lcR2 (lo := 1) (n := 101 + mx % 3) (fun j : Nat => V.str (("cue " : Str) ++ sI (1 + (j : Int)) ++ (" 0 0\n" : Str))) (ea_cons ev_c (ea_cons (ev_op ev_c (ev_op (ev_var rfl) ev_c (rv_I (by decide))) rv_I0) ea_nil)) (by decide) ⟨by omega, by omega, by decide⟩ (fun _ => rfl) fun j H7 e7 hj => ev_op (ev_op ev_c (ev_strI (ev_var rfl) (by omega) (by omega)) (rv_addS (by have := sl j hj; omega))) ev_c (rv_addS (by rw [len_app]; have := sl j hj; omega))) ?_
        have h1 := sum_len 20 ((List.range (101 + mx % 3 - 1).toNat).map fun j : Nat => ("cue " : Str) ++ sI (1 + (j : Int)) ++ (" 0 0\n" : Str)) fun s hs => by
          obtain ⟨j, hj, rfl⟩ := List.mem_map.mp hs
          have hj := List.mem_range.mp hj
          have := sl j (by omega)
          rw [len_app, len_app]
          omega
        rw [l0, Nat.mul_zero, Nat.add_zero]
        rw [List.length_map, List.length_range] at h1
        omega
      · rw [hu2, if_neg (by rw [hb]; decide)]
        rfl
      have e26 := e3.trans (e4.trans (e5.trans e6))
      have e06 : Ex H H6 := (e01.trans bt.ex).trans e26
      have hpl6 : H6 pl = some (.lst (cutV (xs.map V.int) none (some 30))) := e26 _ _ (bt.ex _ _ (e1 _ _ (eT _ _ hpl)))
      obtain ⟨ls, lok, few, two⟩ := rd.rows
      rcases List.eq_nil_or_concat (Txt.split u2 "\n") with hsp | ⟨rs, last, hsp⟩
      · exact absurd hsp (split_ne (s := 10) (by decide) (by decide +kernel))
      rw [List.concat_eq_append] at hsp
      have tw : Two2 ls rs := fun r hr a b hs lk => two r (by rw [hsp]; exact List.mem_append_left _ hr) a b hs lk
      have rl : rs.length ≤ 90000 := by
        have h1 := W_split u2
        rw [hsp] at h1
        have h2 := len_le_W (rs ++ [last])
        rw [List.length_append, List.length_singleton] at h2
        have := rd.len
        omega
      have hG : AllG ls rs s0 := allG lok (by omega) rs s0 inv0 (fun c hc => absurd hc List.not_mem_nil) tw
      have fin : ∀ (y9 y10 : Option V) (Hz : Hp), Ex H6 Hz → ∃ z1 z2 z3 z4 z5 z6 z7 z8 z9 z10 z11 : Option V, [some (.ref sc), some (.int (i : Nat)), some (.int z), some (.ref p), some (.ref m), some (.ref a), some (.ref b), some (.int mx), some (.str u2), y9, y10, y11] = [some (.ref sc), z1, z2, z3, z4, z5, z6, z7, z8, z9, z10, z11] ∧ Ex H Hz ∧ Hz pl = some (.lst (cutV (xs.map V.int) none (some 30))) := fun y9 y10 Hz ez => ⟨_, _, _, _, _, _, _, _, _, _, _, rfl, e06.trans ez, ez _ _ hpl6⟩
      have tl := rd.len
      refine q_asgQ ((ea_cons (ev_var rfl) ea_nil) H6 (Ex.refl H6) (fun vs H1 => spLread (vs ++ []) H1 _ E0) fun H7 e7 => ?_)
      refine ⟨u2, rs, last, ls, rfl, rd.asc, by omega, hsp, lok, by omega, tw, fun k hk lt H8 e8 => ?_, fun s1 hs ne H8 e8 => ?_, fun s1 hs he H8 m2 R2 e8 md new => ?_⟩
      · refine q_asgQ ((ea_cons (ev_var rfl) ea_nil) H8 (Ex.refl H8) (fun vs H1 => spLtried At (vs ++ []) H1 _ E0) fun H9 e9 => ?_)
        have e69 := e7.trans (e8.trans e9)
        refine ⟨u2, last, rs, ls, rfl, fun b hb => (e06.trans e69) _ _ (tabs b hb), lok, by omega, by omega, by omega, hsp, hG, fun s1 h1 => absurd (h1.symm.trans hk) (fun h => nomatch h), fun s1 h1 => absurd (h1.symm.trans hk) (fun h => nomatch h), fun k2 h2 lt2 HA eA => ?_⟩
        obtain rfl : k2 = k := Sum.inr.inj (h2.symm.trans hk)
        exact s_if (b := true) (et_B (ev_isi (ev_var rfl) ev_c (.int _) (by decide +kernel))) (fun _ HB eB => s_when (b := false) (et_is (a := !true || !decide (V.int ((k2 : Nat) : Int) = V.int ((k2 : Nat) : Int))) (et_or (et_not (et_B (ev_isi (ev_var rfl) ev_c (.int _) (by decide +kernel)))) fun _ => et_test (ev_op (ev_var rfl) (ev_var rfl) (rv_ne rfl))) (by rw [decide_eq_true rfl]; rfl)) (fun hb => absurd hb (by decide)) fun _ HC eC => fin _ _ HC ((e69.trans eA).trans (eB.trans eC))) fun hb => absurd hb (by decide)
      · refine q_asgQ ((ea_cons (ev_var rfl) ea_nil) H8 (Ex.refl H8) (fun vs H1 => spLtried At (vs ++ []) H1 _ E0) fun H9 e9 => ?_)
        have e69 := e7.trans (e8.trans e9)
        refine ⟨u2, last, rs, ls, rfl, fun b hb => (e06.trans e69) _ _ (tabs b hb), lok, by omega, by omega, by omega, hsp, hG, fun s2 h1 he2 => absurd he2 ne, fun s2 h1 ne2 HA eA => ?_, fun k2 h2 => absurd (hs.symm.trans h2) (fun h => nomatch h)⟩
        exact s_if (b := true) (et_B (ev_isi (ev_var rfl) ev_c (.int _) (by decide +kernel))) (fun _ HB eB => s_when (b := false) (et_is (a := !true || !decide (V.int ((rs.length : Nat) : Int) = V.int ((rs.length : Nat) : Int))) (et_or (et_not (et_B (ev_isi (ev_var rfl) ev_c (.int _) (by decide +kernel)))) fun _ => et_test (ev_op (ev_var rfl) (ev_var rfl) (rv_ne rfl))) (by rw [decide_eq_true rfl]; rfl)) (fun hb => absurd hb (by decide)) fun _ HC eC => fin _ _ HC ((e69.trans eA).trans (eB.trans eC))) fun hb => absurd hb (by decide)
      · refine q_asgQ ((ea_cons (ev_var rfl) ea_nil) H8 (Ex.refl H8) (fun vs H1 => spLtried At (vs ++ []) H1 _ E0) fun H9 e9 => ?_)
        have e69 := e7.trans (e8.trans e9)
        refine ⟨u2, last, rs, ls, rfl, fun b hb => (e06.trans e69) _ _ (tabs b hb), lok, by omega, by omega, by omega, hsp, hG, fun s2 h2 he2 p2 fp2 HA hA new2 eA => ?_, fun s2 h1 ne2 => absurd he ne2, fun k2 h2 => absurd (hs.symm.trans h2) (fun h => nomatch h)⟩
        obtain rfl : s2 = s1 := Sum.inl.inj (h2.symm.trans hs)
        obtain ⟨inv, lam⟩ := goT_inv rs 0 s0 s2 inv0 (ls := ls) (fun c hc => absurd hc List.not_mem_nil) tw hs
        have gd1 := inv.good lam lok (by omega)
        have mdA := md.ex (e9.trans eA)
        have nm : ¬ (fp2 m2 ∨ At.tb m2) := fun h => h.elim (fun h => by
          have h1 := new2 m2 h
          rw [(md.ex e9).dk] at h1
          cases h1) fun h => by
          have h1 := (e06.trans e7) _ _ (tabs m2 h)
          rw [new m2 (.inl rfl)] at h1
          cases h1
        obtain ⟨dx, fs0, ho, _⟩ := L.ins hA
        refine s_if (b := false) (et_B (ev_isi (ev_var rfl) ev_c (.dK mdA.dk) (by decide +kernel))) (fun hb => absurd hb (by decide)) fun _ HB eB => ?_
        exact s_when (b := false) (et_is (a := false || !true) (et_or (et_B (ev_isiP NI L.cls (ev_var rfl) ev_c (eB _ _ ho))) fun _ => et_not (et_B (ev_call3 (R := RStands K At) (sp3 := spTold) (x := .ref p2) (y := .ref m2) (ws := [.ref m2]) (z := .bl true) (ev_var rfl) (ev_var rfl) (ea_cons (ev_var rfl) ea_nil) fun HC eC Q3 k3 => ⟨m2, R2, ls, rfl, mdA.mat.ex (eB.trans eC), eC _ _ (eB _ _ mdA.dk), by rw [mdA.bk]; exact gd1, few, fun a2 qs HD na eD ha as => k3 _ HD eD ⟨p2, m2, a2, R2, ls, qs, s2.B, fp2, rfl, mdA.mat.ex (eB.trans (eC.trans eD)), eD _ _ (eC _ _ (eB _ _ mdA.dk)), L.ex hA (eB.trans (eC.trans eD)), by rw [mdA.bk]; exact LikeB.of (SameB.refl _), by rw [mdA.bk]; exact gd1, nm, .of ha, as, rfl⟩⟩))) rfl) (fun hb => absurd hb (by decide)) fun _ HC eC => fin _ _ HC (e69.trans (eA.trans (eB.trans eC)))
    · rintro ⟨y1, y2, y3, y4, y5, y6, y7, y8, y9, y10, y11, rfl, e0, hpl⟩
      have sp0 : Txt.split ("" : Str) "\n" = [] ++ [Str.empty] := by
        refine TL.map_tl_inj ?_
        rw [split_cut (s := 10) (by decide) (by decide +kernel)]
        rfl
      have el : EvL (tMeth cPlay "numbers" (spNumbers At) [] E0 (tCall (spReadX At eNoText) [] E0 (tCons (tC (.str "")) tNil)) tNil) [some (.ref sc), y1, y2, y3, y4, y5, y6, y7, y8, y9, y10, y11] H' ([] : List V) := fun H1 e1 Q1 q1 => by
        unfold tMeth tCall
        refine (ea_cons ev_c ea_nil : EvA _ _ H1 [.str ""]) H1 (Ex.refl H1) _ fun H2 e2 => ?_
        exact ⟨"", Str.empty, [], [], rfl, fun b hb => (e0.trans (e1.trans e2)) _ _ (tabs b hb), fun l hl => absurd hl List.not_mem_nil, by decide, by decide, by decide, sp0, inv0.good (fun c hc => absurd hc List.not_mem_nil) (fun l hl => absurd hl List.not_mem_nil) (by decide), fun s hs _ p fp H3 hA new e3 => by
          obtain rfl : s0 = s := Sum.inl.inj hs
          obtain ⟨dx, fs0, ho, hm⟩ := L.ins hA
          exact ⟨p, dx, fs0, rfl, ho, hm "numbers" (by decide), [], ⟨p, [], [], fp, rfl, hA, by unfold asc; rw [List.mergeSort_nil]; rfl⟩, fun pl H4 np e4 h4 => q1 pl H4 (fresh_back (e2.trans e3) np) (e2.trans (e3.trans e4)) h4⟩, fun s _ ne => absurd rfl ne, fun i h => nomatch h⟩
      refine s_ret (v := .bl true) (ev_is (ev_opLL el (el_lst ea_nil (Nat.zero_le _)) fun a b H4 ha hb e4 => rv_eqD (fun H5 e5 => .lst (.of (e5 _ _ ha)) .nil) (fun H5 e5 => .lst (.of (e5 _ _ hb)) .nil) (by decide +kernel) (by decide +kernel)) ?_) fun H5 e5 => q H5 (e0.trans e5)
      rw [PyData.eqv, PyData.eqvAll]
end
end LW

namespace LW
open PySem PySem.Spec PyProof.Rows L2 Evl HB HS MB HW HM HI PI MC HJ PS PT GX MX RP RL RS RT
section
/-! ### what the top has written; the end -/
theorem all_mk {l : PySem.W.OpenLaw} {w : World} {K : PySem.W.Frag} {h : Heap} {mg : Str → Option Value} {fa c2 P2 c8 P8 : Addr} {known : Str → Prop} (X : K.In h) (G : h.Ns mainGlobals mg) (hfa : mg "law" = some (.ref fa))
    (tabs : ∀ (y : Str) (c P : Addr), known y → PySem.W.tabIn K y = some (c, P) → PySem.W.CodeHd h c P ∧ h.get? P = some { cls := .none, data := .fields #[] })
    {eCueError eNoCue eTaken eTooMany eNoLamp eNoLevel eNoTime eNoText cCue cPlay cReader f1 f2 f3 f4 f5 f6 f7 f8 f9 f10 f11 f12 f13 f14 f15 f16 f17 f18 f19 f20 f21 f22 f23 f24 f25 f26 f27 f28 f29 f30 f31 f32 f33 f34 f35 f36 f37 f38 f39 f40 f41 f42 f43 f44 f45 f46 f47 f48 f49 f50 f51 f52 f53 f54 f55 f56 f57 f58 f59 f60 f61 : Addr} {od1 an1 od2 an2 od3 an3 od4 an4 od5 an5 od6 an6 od7 an7 od8 an8 od9 an9 od10 an10 od11 an11 od12 an12 od13 an13 od14 an14 od15 an15 od16 an16 od17 an17 od18 an18 od19 an19 od20 an20 od21 an21 od22 an22 od23 an23 od24 an24 od25 an25 od26 an26 od27 an27 od28 an28 od29 an29 od30 an30 od31 an31 od32 an32 od33 an33 od34 an34 od35 an35 od36 an36 od37 an37 od38 an38 od39 an39 od40 an40 od41 an41 od42 an42 od43 an43 od44 an44 od45 an45 od46 an46 od47 an47 od48 an48 od49 an49 od50 an50 od51 an51 od52 an52 od53 an53 od54 an54 od55 an55 od56 an56 od57 an57 od58 an58 od59 an59 od60 an60 od61 an61 : Option Addr} {sl1 sl2 sl3 sl4 sl5 sl6 sl7 sl8 sl9 sl10 sl11 sl12 sl13 sl14 sl15 sl16 sl17 sl18 sl19 sl20 sl21 sl22 sl23 sl24 sl25 sl26 sl27 sl28 sl29 sl30 sl31 sl32 sl33 sl34 sl35 sl36 sl37 sl38 sl39 sl40 sl41 sl42 sl43 sl44 sl45 sl46 sl47 sl48 sl49 sl50 sl51 sl52 sl53 sl54 sl55 sl56 sl57 sl58 sl59 sl60 sl61 : Array (Option Value)} {oc1 kV1 dc1 pm1 ct1 cd1 oc2 kV2 dc2 pm2 ct2 oc3 kV3 dc3 pm3 ct3 cd3 oc4 kV4 dc4 pm4 ct4 cd4 oc5 kV5 dc5 pm5 ct5 cd5 oc6 kV6 dc6 pm6 ct6 cd6 oc7 kV7 dc7 pm7 ct7 cd7 oc8 kV8 dc8 pm8 ct8 oc9 kV9 dc9 pm9 ct9 cd9 oc10 kV10 dc10 pm10 ct10 cd10 oc11 kV11 dc11 pm11 ct11 cd11 oc12 kV12 dc12 pm12 ct12 cd12 oc13 kV13 dc13 pm13 ct13 cd13 oc14 kV14 dc14 pm14 ct14 cd14 oc15 kV15 dc15 pm15 ct15 cd15 oc16 kV16 dc16 pm16 ct16 cd16 oc17 kV17 dc17 pm17 ct17 cd17 oc18 kV18 dc18 pm18 ct18 cd18 oc19 kV19 dc19 pm19 ct19 cd19 oc20 kV20 dc20 pm20 ct20 cd20 oc21 kV21 dc21 pm21 ct21 cd21 oc22 kV22 dc22 pm22 ct22 cd22 oc23 kV23 dc23 pm23 ct23 cd23 oc24 kV24 dc24 pm24 ct24 cd24 oc25 kV25 dc25 pm25 ct25 cd25 oc26 kV26 dc26 pm26 ct26 cd26 oc27 kV27 dc27 pm27 ct27 cd27 oc28 kV28 dc28 pm28 ct28 cd28 oc29 kV29 dc29 pm29 ct29 cd29 oc30 kV30 dc30 pm30 ct30 cd30 oc31 kV31 dc31 pm31 ct31 cd31 oc32 kV32 dc32 pm32 ct32 cd32 oc33 kV33 dc33 pm33 ct33 cd33 oc34 kV34 dc34 pm34 ct34 cd34 oc35 kV35 dc35 pm35 ct35 cd35 oc36 kV36 dc36 pm36 ct36 cd36 oc37 kV37 dc37 pm37 ct37 cd37 oc38 kV38 dc38 pm38 ct38 cd38 oc39 kV39 dc39 pm39 ct39 cd39 oc40 kV40 dc40 pm40 ct40 cd40 oc41 kV41 dc41 pm41 ct41 cd41 oc42 kV42 dc42 pm42 ct42 cd42 oc43 kV43 dc43 pm43 ct43 cd43 oc44 kV44 dc44 pm44 ct44 cd44 oc45 kV45 dc45 pm45 ct45 cd45 oc46 kV46 dc46 pm46 ct46 cd46 oc47 kV47 dc47 pm47 ct47 cd47 oc48 kV48 dc48 pm48 ct48 cd48 oc49 kV49 dc49 pm49 ct49 cd49 oc50 kV50 dc50 pm50 ct50 cd50 oc51 kV51 dc51 pm51 ct51 cd51 oc52 kV52 dc52 pm52 ct52 cd52 oc53 kV53 dc53 pm53 ct53 cd53 oc54 kV54 dc54 pm54 ct54 cd54 oc55 kV55 dc55 pm55 ct55 cd55 oc56 kV56 dc56 pm56 ct56 cd56 oc57 kV57 dc57 pm57 ct57 cd57 oc58 kV58 dc58 pm58 ct58 cd58 oc59 kV59 dc59 pm59 ct59 cd59 oc60 kV60 dc60 pm60 ct60 cd60 oc61 kV61 dc61 pm61 ct61 cd61 : Value} {t1 t2 t3 t4 t5 t6 t7 t8 st1 st2 : Tok}
    {fX : Addr} {odX anX : Option Addr} {slX : Array (Option Value)} {ocX kVX dcX pmX ctX cdX : Value}
    {dT41 : Addr} {dO41 : Obj} {dI41 : List Value} {dN41 : Nat}
    (a1 : PySem.W.nsIn K mainGlobals "is_cue" = some (some (.ref f1)))
    (l1 : K.lookup f1 = some ⟨oc1, od1, .func (PySem.W.fnOf "is_cue" "is_cue" (defArgs sis_cue) (defBody sis_cue) (defScope sis_cue) .none kV1 dc1 pm1 an1 cd1 ct1), sl1⟩)
    (cd1k : PySem.W.codeIn K cd1 "is_cue" = true)
    (k1 : PySem.W.keepIn K (.ref f1) = true)
    (a2 : PySem.W.nsIn K mainGlobals "is_lamp" = some (some (.ref f2)))
    (l2 : K.lookup f2 = some ⟨oc2, od2, .func (PySem.W.fnOf "is_lamp" "is_lamp" (defArgs sis_lamp) (defBody sis_lamp) (defScope sis_lamp) .none kV2 dc2 pm2 an2 (.ref c2) ct2), sl2⟩)
    (cd2k : PySem.W.codeIn K (.ref c2) "is_lamp" = true)
    (k2 : PySem.W.keepIn K (.ref f2) = true)
    (a3 : PySem.W.nsIn K mainGlobals "is_level" = some (some (.ref f3)))
    (l3 : K.lookup f3 = some ⟨oc3, od3, .func (PySem.W.fnOf "is_level" "is_level" (defArgs sis_level) (defBody sis_level) (defScope sis_level) .none kV3 dc3 pm3 an3 cd3 ct3), sl3⟩)
    (cd3k : PySem.W.codeIn K cd3 "is_level" = true)
    (k3 : PySem.W.keepIn K (.ref f3) = true)
    (a4 : PySem.W.nsIn K mainGlobals "is_fade" = some (some (.ref f4)))
    (l4 : K.lookup f4 = some ⟨oc4, od4, .func (PySem.W.fnOf "is_fade" "is_fade" (defArgs sis_fade) (defBody sis_fade) (defScope sis_fade) .none kV4 dc4 pm4 an4 cd4 ct4), sl4⟩)
    (cd4k : PySem.W.codeIn K cd4 "is_fade" = true)
    (k4 : PySem.W.keepIn K (.ref f4) = true)
    (a5 : PySem.W.nsIn K mainGlobals "_is_number" = some (some (.ref f5)))
    (l5 : K.lookup f5 = some ⟨oc5, od5, .func (PySem.W.fnOf "_is_number" "_is_number" (defArgs s_is_number) (defBody s_is_number) (defScope s_is_number) .none kV5 dc5 pm5 an5 cd5 ct5), sl5⟩)
    (cd5k : PySem.W.codeIn K cd5 "_is_number" = true)
    (k5 : PySem.W.keepIn K (.ref f5) = true)
    (a6 : PySem.W.nsIn K mainGlobals "_is_small_letter" = some (some (.ref f6)))
    (l6 : K.lookup f6 = some ⟨oc6, od6, .func (PySem.W.fnOf "_is_small_letter" "_is_small_letter" (defArgs s_is_small_letter) (defBody s_is_small_letter) (defScope s_is_small_letter) .none kV6 dc6 pm6 an6 cd6 ct6), sl6⟩)
    (cd6k : PySem.W.codeIn K cd6 "_is_small_letter" = true)
    (k6 : PySem.W.keepIn K (.ref f6) = true)
    (a7 : PySem.W.nsIn K mainGlobals "read" = some (some (.ref f7)))
    (l7 : K.lookup f7 = some ⟨oc7, od7, .func (PySem.W.fnOf "read" "read" (defArgs sread) (defBody sread) (defScope sread) .none kV7 dc7 pm7 an7 cd7 ct7), sl7⟩)
    (cd7k : PySem.W.codeIn K cd7 "read" = true)
    (k7 : PySem.W.keepIn K (.ref f7) = true)
    (a8 : PySem.W.nsIn K mainGlobals "_number_of" = some (some (.ref f8)))
    (l8 : K.lookup f8 = some ⟨oc8, od8, .func (PySem.W.fnOf "_number_of" "_number_of" (defArgs s_number_of) (defBody s_number_of) (defScope s_number_of) .none kV8 dc8 pm8 an8 (.ref c8) ct8), sl8⟩)
    (cd8k : PySem.W.codeIn K (.ref c8) "_number_of" = true)
    (k8 : PySem.W.keepIn K (.ref f8) = true)
    (a9 : PySem.W.nsIn K mainGlobals "_is_figure" = some (some (.ref f9)))
    (l9 : K.lookup f9 = some ⟨oc9, od9, .func (PySem.W.fnOf "_is_figure" "_is_figure" (defArgs s_is_figure) (defBody s_is_figure) (defScope s_is_figure) .none kV9 dc9 pm9 an9 cd9 ct9), sl9⟩)
    (cd9k : PySem.W.codeIn K cd9 "_is_figure" = true)
    (k9 : PySem.W.keepIn K (.ref f9) = true)
    (a10 : PySem.W.nsIn K mainGlobals "_law_mixed" = some (some (.ref f10)))
    (l10 : K.lookup f10 = some ⟨oc10, od10, .func (PySem.W.fnOf "_law_mixed" "_law_mixed" (defArgs s_law_mixed) (defBody s_law_mixed) (defScope s_law_mixed) .none kV10 dc10 pm10 an10 cd10 ct10), sl10⟩)
    (cd10k : PySem.W.codeIn K cd10 "_law_mixed" = true)
    (k10 : PySem.W.keepIn K (.ref f10) = true)
    (a11 : PySem.W.nsIn K mainGlobals "_law_cell" = some (some (.ref f11)))
    (l11 : K.lookup f11 = some ⟨oc11, od11, .func (PySem.W.fnOf "_law_cell" "_law_cell" (defArgs s_law_cell) (defBody s_law_cell) (defScope s_law_cell) .none kV11 dc11 pm11 an11 cd11 ct11), sl11⟩)
    (cd11k : PySem.W.codeIn K cd11 "_law_cell" = true)
    (k11 : PySem.W.keepIn K (.ref f11) = true)
    (a12 : PySem.W.nsIn K mainGlobals "_law_lamps" = some (some (.ref f12)))
    (l12 : K.lookup f12 = some ⟨oc12, od12, .func (PySem.W.fnOf "_law_lamps" "_law_lamps" (defArgs s_law_lamps) (defBody s_law_lamps) (defScope s_law_lamps) .none kV12 dc12 pm12 an12 cd12 ct12), sl12⟩)
    (cd12k : PySem.W.codeIn K cd12 "_law_lamps" = true)
    (k12 : PySem.W.keepIn K (.ref f12) = true)
    (a13 : PySem.W.nsIn K mainGlobals "_law_numbers" = some (some (.ref f13)))
    (l13 : K.lookup f13 = some ⟨oc13, od13, .func (PySem.W.fnOf "_law_numbers" "_law_numbers" (defArgs s_law_numbers) (defBody s_law_numbers) (defScope s_law_numbers) .none kV13 dc13 pm13 an13 cd13 ct13), sl13⟩)
    (cd13k : PySem.W.codeIn K cd13 "_law_numbers" = true)
    (k13 : PySem.W.keepIn K (.ref f13) = true)
    (a14 : PySem.W.nsIn K mainGlobals "_law_level" = some (some (.ref f14)))
    (l14 : K.lookup f14 = some ⟨oc14, od14, .func (PySem.W.fnOf "_law_level" "_law_level" (defArgs s_law_level) (defBody s_law_level) (defScope s_law_level) .none kV14 dc14 pm14 an14 cd14 ct14), sl14⟩)
    (cd14k : PySem.W.codeIn K cd14 "_law_level" = true)
    (k14 : PySem.W.keepIn K (.ref f14) = true)
    (a15 : PySem.W.nsIn K mainGlobals "_law_look" = some (some (.ref f15)))
    (l15 : K.lookup f15 = some ⟨oc15, od15, .func (PySem.W.fnOf "_law_look" "_law_look" (defArgs s_law_look) (defBody s_law_look) (defScope s_law_look) .none kV15 dc15 pm15 an15 cd15 ct15), sl15⟩)
    (cd15k : PySem.W.codeIn K cd15 "_law_look" = true)
    (k15 : PySem.W.keepIn K (.ref f15) = true)
    (a16 : PySem.W.nsIn K mainGlobals "_law_whole" = some (some (.ref f16)))
    (l16 : K.lookup f16 = some ⟨oc16, od16, .func (PySem.W.fnOf "_law_whole" "_law_whole" (defArgs s_law_whole) (defBody s_law_whole) (defScope s_law_whole) .none kV16 dc16 pm16 an16 cd16 ct16), sl16⟩)
    (cd16k : PySem.W.codeIn K cd16 "_law_whole" = true)
    (k16 : PySem.W.keepIn K (.ref f16) = true)
    (a17 : PySem.W.nsIn K mainGlobals "_law_same" = some (some (.ref f17)))
    (l17 : K.lookup f17 = some ⟨oc17, od17, .func (PySem.W.fnOf "_law_same" "_law_same" (defArgs s_law_same) (defBody s_law_same) (defScope s_law_same) .none kV17 dc17 pm17 an17 cd17 ct17), sl17⟩)
    (cd17k : PySem.W.codeIn K cd17 "_law_same" = true)
    (k17 : PySem.W.keepIn K (.ref f17) = true)
    (a18 : PySem.W.nsIn K mainGlobals "_law_cue_right" = some (some (.ref f18)))
    (l18 : K.lookup f18 = some ⟨oc18, od18, .func (PySem.W.fnOf "_law_cue_right" "_law_cue_right" (defArgs s_law_cue_right) (defBody s_law_cue_right) (defScope s_law_cue_right) .none kV18 dc18 pm18 an18 cd18 ct18), sl18⟩)
    (cd18k : PySem.W.codeIn K cd18 "_law_cue_right" = true)
    (k18 : PySem.W.keepIn K (.ref f18) = true)
    (a19 : PySem.W.nsIn K mainGlobals "_law_stands" = some (some (.ref f19)))
    (l19 : K.lookup f19 = some ⟨oc19, od19, .func (PySem.W.fnOf "_law_stands" "_law_stands" (defArgs s_law_stands) (defBody s_law_stands) (defScope s_law_stands) .none kV19 dc19 pm19 an19 cd19 ct19), sl19⟩)
    (cd19k : PySem.W.codeIn K cd19 "_law_stands" = true)
    (k19 : PySem.W.keepIn K (.ref f19) = true)
    (a20 : PySem.W.nsIn K mainGlobals "_law_hold" = some (some (.ref f20)))
    (l20 : K.lookup f20 = some ⟨oc20, od20, .func (PySem.W.fnOf "_law_hold" "_law_hold" (defArgs s_law_hold) (defBody s_law_hold) (defScope s_law_hold) .none kV20 dc20 pm20 an20 cd20 ct20), sl20⟩)
    (cd20k : PySem.W.codeIn K cd20 "_law_hold" = true)
    (k20 : PySem.W.keepIn K (.ref f20) = true)
    (a21 : PySem.W.nsIn K mainGlobals "_law_behind" = some (some (.ref f21)))
    (l21 : K.lookup f21 = some ⟨oc21, od21, .func (PySem.W.fnOf "_law_behind" "_law_behind" (defArgs s_law_behind) (defBody s_law_behind) (defScope s_law_behind) .none kV21 dc21 pm21 an21 cd21 ct21), sl21⟩)
    (cd21k : PySem.W.codeIn K cd21 "_law_behind" = true)
    (k21 : PySem.W.keepIn K (.ref f21) = true)
    (a22 : PySem.W.nsIn K mainGlobals "_law_put" = some (some (.ref f22)))
    (l22 : K.lookup f22 = some ⟨oc22, od22, .func (PySem.W.fnOf "_law_put" "_law_put" (defArgs s_law_put) (defBody s_law_put) (defScope s_law_put) .none kV22 dc22 pm22 an22 cd22 ct22), sl22⟩)
    (cd22k : PySem.W.codeIn K cd22 "_law_put" = true)
    (k22 : PySem.W.keepIn K (.ref f22) = true)
    (a23 : PySem.W.nsIn K mainGlobals "_law_only" = some (some (.ref f23)))
    (l23 : K.lookup f23 = some ⟨oc23, od23, .func (PySem.W.fnOf "_law_only" "_law_only" (defArgs s_law_only) (defBody s_law_only) (defScope s_law_only) .none kV23 dc23 pm23 an23 cd23 ct23), sl23⟩)
    (cd23k : PySem.W.codeIn K cd23 "_law_only" = true)
    (k23 : PySem.W.keepIn K (.ref f23) = true)
    (a24 : PySem.W.nsIn K mainGlobals "_law_lift" = some (some (.ref f24)))
    (l24 : K.lookup f24 = some ⟨oc24, od24, .func (PySem.W.fnOf "_law_lift" "_law_lift" (defArgs s_law_lift) (defBody s_law_lift) (defScope s_law_lift) .none kV24 dc24 pm24 an24 cd24 ct24), sl24⟩)
    (cd24k : PySem.W.codeIn K cd24 "_law_lift" = true)
    (k24 : PySem.W.keepIn K (.ref f24) = true)
    (a25 : PySem.W.nsIn K mainGlobals "_law_done" = some (some (.ref f25)))
    (l25 : K.lookup f25 = some ⟨oc25, od25, .func (PySem.W.fnOf "_law_done" "_law_done" (defArgs s_law_done) (defBody s_law_done) (defScope s_law_done) .none kV25 dc25 pm25 an25 cd25 ct25), sl25⟩)
    (cd25k : PySem.W.codeIn K cd25 "_law_done" = true)
    (k25 : PySem.W.keepIn K (.ref f25) = true)
    (a26 : PySem.W.nsIn K mainGlobals "_law_built" = some (some (.ref f26)))
    (l26 : K.lookup f26 = some ⟨oc26, od26, .func (PySem.W.fnOf "_law_built" "_law_built" (defArgs s_law_built) (defBody s_law_built) (defScope s_law_built) .none kV26 dc26 pm26 an26 cd26 ct26), sl26⟩)
    (cd26k : PySem.W.codeIn K cd26 "_law_built" = true)
    (k26 : PySem.W.keepIn K (.ref f26) = true)
    (a27 : PySem.W.nsIn K mainGlobals "_law_class" = some (some (.ref f27)))
    (l27 : K.lookup f27 = some ⟨oc27, od27, .func (PySem.W.fnOf "_law_class" "_law_class" (defArgs s_law_class) (defBody s_law_class) (defScope s_law_class) .none kV27 dc27 pm27 an27 cd27 ct27), sl27⟩)
    (cd27k : PySem.W.codeIn K cd27 "_law_class" = true)
    (k27 : PySem.W.keepIn K (.ref f27) = true)
    (a28 : PySem.W.nsIn K mainGlobals "_law_number_in" = some (some (.ref f28)))
    (l28 : K.lookup f28 = some ⟨oc28, od28, .func (PySem.W.fnOf "_law_number_in" "_law_number_in" (defArgs s_law_number_in) (defBody s_law_number_in) (defScope s_law_number_in) .none kV28 dc28 pm28 an28 cd28 ct28), sl28⟩)
    (cd28k : PySem.W.codeIn K cd28 "_law_number_in" = true)
    (k28 : PySem.W.keepIn K (.ref f28) = true)
    (a29 : PySem.W.nsIn K mainGlobals "_law_cue_in" = some (some (.ref f29)))
    (l29 : K.lookup f29 = some ⟨oc29, od29, .func (PySem.W.fnOf "_law_cue_in" "_law_cue_in" (defArgs s_law_cue_in) (defBody s_law_cue_in) (defScope s_law_cue_in) .none kV29 dc29 pm29 an29 cd29 ct29), sl29⟩)
    (cd29k : PySem.W.codeIn K cd29 "_law_cue_in" = true)
    (k29 : PySem.W.keepIn K (.ref f29) = true)
    (a30 : PySem.W.nsIn K mainGlobals "_law_word_in" = some (some (.ref f30)))
    (l30 : K.lookup f30 = some ⟨oc30, od30, .func (PySem.W.fnOf "_law_word_in" "_law_word_in" (defArgs s_law_word_in) (defBody s_law_word_in) (defScope s_law_word_in) .none kV30 dc30 pm30 an30 cd30 ct30), sl30⟩)
    (cd30k : PySem.W.codeIn K cd30 "_law_word_in" = true)
    (k30 : PySem.W.keepIn K (.ref f30) = true)
    (a31 : PySem.W.nsIn K mainGlobals "_law_read" = some (some (.ref f31)))
    (l31 : K.lookup f31 = some ⟨oc31, od31, .func (PySem.W.fnOf "_law_read" "_law_read" (defArgs s_law_read) (defBody s_law_read) (defScope s_law_read) .none kV31 dc31 pm31 an31 cd31 ct31), sl31⟩)
    (cd31k : PySem.W.codeIn K cd31 "_law_read" = true)
    (k31 : PySem.W.keepIn K (.ref f31) = true)
    (a32 : PySem.W.nsIn K mainGlobals "_law_text" = some (some (.ref f32)))
    (l32 : K.lookup f32 = some ⟨oc32, od32, .func (PySem.W.fnOf "_law_text" "_law_text" (defArgs s_law_text) (defBody s_law_text) (defScope s_law_text) .none kV32 dc32 pm32 an32 cd32 ct32), sl32⟩)
    (cd32k : PySem.W.codeIn K cd32 "_law_text" = true)
    (k32 : PySem.W.keepIn K (.ref f32) = true)
    (a33 : PySem.W.nsIn K mainGlobals "_law_bad" = some (some (.ref f33)))
    (l33 : K.lookup f33 = some ⟨oc33, od33, .func (PySem.W.fnOf "_law_bad" "_law_bad" (defArgs s_law_bad) (defBody s_law_bad) (defScope s_law_bad) .none kV33 dc33 pm33 an33 cd33 ct33), sl33⟩)
    (cd33k : PySem.W.codeIn K cd33 "_law_bad" = true)
    (k33 : PySem.W.keepIn K (.ref f33) = true)
    (a34 : PySem.W.nsIn K mainGlobals "_law_changed" = some (some (.ref f34)))
    (l34 : K.lookup f34 = some ⟨oc34, od34, .func (PySem.W.fnOf "_law_changed" "_law_changed" (defArgs s_law_changed) (defBody s_law_changed) (defScope s_law_changed) .none kV34 dc34 pm34 an34 cd34 ct34), sl34⟩)
    (cd34k : PySem.W.codeIn K cd34 "_law_changed" = true)
    (k34 : PySem.W.keepIn K (.ref f34) = true)
    (a35 : PySem.W.nsIn K mainGlobals "_law_tried" = some (some (.ref f35)))
    (l35 : K.lookup f35 = some ⟨oc35, od35, .func (PySem.W.fnOf "_law_tried" "_law_tried" (defArgs s_law_tried) (defBody s_law_tried) (defScope s_law_tried) .none kV35 dc35 pm35 an35 cd35 ct35), sl35⟩)
    (cd35k : PySem.W.codeIn K cd35 "_law_tried" = true)
    (k35 : PySem.W.keepIn K (.ref f35) = true)
    (a36 : PySem.W.nsIn K mainGlobals "_law_told_lamps" = some (some (.ref f36)))
    (l36 : K.lookup f36 = some ⟨oc36, od36, .func (PySem.W.fnOf "_law_told_lamps" "_law_told_lamps" (defArgs s_law_told_lamps) (defBody s_law_told_lamps) (defScope s_law_told_lamps) .none kV36 dc36 pm36 an36 cd36 ct36), sl36⟩)
    (cd36k : PySem.W.codeIn K cd36 "_law_told_lamps" = true)
    (k36 : PySem.W.keepIn K (.ref f36) = true)
    (a37 : PySem.W.nsIn K mainGlobals "law" = some (some (.ref f37)))
    (l37 : K.lookup f37 = some ⟨oc37, od37, .func (PySem.W.fnOf "law" "law" (defArgs slaw) (defBody slaw) (defScope slaw) .none kV37 dc37 pm37 an37 cd37 ct37), sl37⟩)
    (cd37k : PySem.W.codeIn K cd37 "law" = true)
    (k37 : PySem.W.keepIn K (.ref f37) = true)
    (geNoCue : PySem.W.nsIn K mainGlobals "NoCue" = some (some (.ref eNoCue)))
    (xeNoCue : PySem.W.excIn K eNoCue [.type "ValueError", .type "Exception", .type "BaseException", .type "object"] "ValueError.__new__" = true)
    (keNoCue : PySem.W.keepIn K (.ref eNoCue) = true)
    (beNoCue : PySem.W.subIn K (.ref eNoCue) (.type "BaseException") = some true)
    (teNoCue : PySem.W.typeIn K (.ref eNoCue) = some (.type "type"))
    (geTaken : PySem.W.nsIn K mainGlobals "Taken" = some (some (.ref eTaken)))
    (xeTaken : PySem.W.excIn K eTaken [.type "ValueError", .type "Exception", .type "BaseException", .type "object"] "ValueError.__new__" = true)
    (keTaken : PySem.W.keepIn K (.ref eTaken) = true)
    (beTaken : PySem.W.subIn K (.ref eTaken) (.type "BaseException") = some true)
    (teTaken : PySem.W.typeIn K (.ref eTaken) = some (.type "type"))
    (geTooMany : PySem.W.nsIn K mainGlobals "TooMany" = some (some (.ref eTooMany)))
    (xeTooMany : PySem.W.excIn K eTooMany [.type "ValueError", .type "Exception", .type "BaseException", .type "object"] "ValueError.__new__" = true)
    (keTooMany : PySem.W.keepIn K (.ref eTooMany) = true)
    (beTooMany : PySem.W.subIn K (.ref eTooMany) (.type "BaseException") = some true)
    (teTooMany : PySem.W.typeIn K (.ref eTooMany) = some (.type "type"))
    (geNoLamp : PySem.W.nsIn K mainGlobals "NoLamp" = some (some (.ref eNoLamp)))
    (xeNoLamp : PySem.W.excIn K eNoLamp [.type "ValueError", .type "Exception", .type "BaseException", .type "object"] "ValueError.__new__" = true)
    (keNoLamp : PySem.W.keepIn K (.ref eNoLamp) = true)
    (beNoLamp : PySem.W.subIn K (.ref eNoLamp) (.type "BaseException") = some true)
    (teNoLamp : PySem.W.typeIn K (.ref eNoLamp) = some (.type "type"))
    (geNoLevel : PySem.W.nsIn K mainGlobals "NoLevel" = some (some (.ref eNoLevel)))
    (xeNoLevel : PySem.W.excIn K eNoLevel [.type "ValueError", .type "Exception", .type "BaseException", .type "object"] "ValueError.__new__" = true)
    (keNoLevel : PySem.W.keepIn K (.ref eNoLevel) = true)
    (beNoLevel : PySem.W.subIn K (.ref eNoLevel) (.type "BaseException") = some true)
    (teNoLevel : PySem.W.typeIn K (.ref eNoLevel) = some (.type "type"))
    (geNoTime : PySem.W.nsIn K mainGlobals "NoTime" = some (some (.ref eNoTime)))
    (xeNoTime : PySem.W.excIn K eNoTime [.type "ValueError", .type "Exception", .type "BaseException", .type "object"] "ValueError.__new__" = true)
    (keNoTime : PySem.W.keepIn K (.ref eNoTime) = true)
    (beNoTime : PySem.W.subIn K (.ref eNoTime) (.type "BaseException") = some true)
    (teNoTime : PySem.W.typeIn K (.ref eNoTime) = some (.type "type"))
    (geCueError : PySem.W.nsIn K mainGlobals "CueError" = some (some (.ref eCueError)))
    (geNoText : PySem.W.nsIn K mainGlobals "NoText" = some (some (.ref eNoText)))
    (uxeNoCue : PySem.W.exmOne K (.ref eNoCue) (.ref eCueError) = some true)
    (uxeTaken : PySem.W.exmOne K (.ref eTaken) (.ref eCueError) = some true)
    (uxeTooMany : PySem.W.exmOne K (.ref eTooMany) (.ref eCueError) = some true)
    (uxeNoLamp : PySem.W.exmOne K (.ref eNoLamp) (.ref eCueError) = some true)
    (uxeNoLevel : PySem.W.exmOne K (.ref eNoLevel) (.ref eCueError) = some true)
    (uxeNoTime : PySem.W.exmOne K (.ref eNoTime) (.ref eCueError) = some true)
    (aX : PySem.W.findIn K (.ref eNoText) "__init__" = some (some (.ref fX)))
    (iX : PySem.W.isFn K (.ref fX) = true)
    (lX : K.lookup fX = some ⟨ocX, odX, .func (PySem.W.fnOf "__init__" "NoText.__init__" (defArgs sNoText__init__) (defBody sNoText__init__) (defScope sNoText__init__) .none kVX dcX pmX anX cdX ctX), slX⟩)
    (cdXk : PySem.W.codeIn K cdX "NoText.__init__" = true)
    (kX : PySem.W.keepIn K (.ref fX) = true)
    (oxb : RK.oexB K eNoText = true)
    (saX : PySem.W.findIn K (.ref eNoText) "__setattr__" = some (some (.builtin "object.__setattr__")))
    (beX : PySem.W.subIn K (.ref eNoText) (.type "BaseException") = some true)
    (teX : PySem.W.typeIn K (.ref eNoText) = some (.type "type"))
    (keX : PySem.W.keepIn K (.ref eNoText) = true)
    (nrX : PySem.W.findIn K (.ref eNoText) "row" = some none)
    (r0eNoText : PySem.W.findIn K (.ref eNoText) "__getattribute__" = some (some (.builtin "BaseException.__getattribute__")))
    (r1eNoText : PySem.W.findIn K (.ref eNoText) "__getattr__" = some none)
    (r2eNoText : PySem.W.hasDictIn K eNoText = true)
    (r3eNoText : PySem.W.findIn K (.ref eNoText) "__class__" = some (some (.builtin "object.__class__")))
    (r4eNoText : PySem.W.mroIn K eNoText (.type "object") = some true)
    (rn : PySem.W.specialIn K (.builtin "object.__class__") "__get__" = some (some (.builtin "getset_descriptor.__get__")))
    (rt : PySem.W.takesIn K (.builtin "object.__class__") = some true)
    (u0eNoText : PySem.W.kitOne K (.ref eNoText) (.ref eNoCue) = some false)
    (u1eNoText : PySem.W.kitOne K (.ref eNoText) (.ref eTaken) = some false)
    (u2eNoText : PySem.W.kitOne K (.ref eNoText) (.ref eTooMany) = some false)
    (u3eNoText : PySem.W.kitOne K (.ref eNoText) (.ref eNoLamp) = some false)
    (u4eNoText : PySem.W.kitOne K (.ref eNoText) (.ref eNoLevel) = some false)
    (u5eNoText : PySem.W.kitOne K (.ref eNoText) (.ref eNoTime) = some false)
    (u6eNoText : PySem.W.kitOne K (.ref eNoText) (.ref eNoText) = some true)
    (uveNoText : PySem.W.kitOne K (.ref eNoText) (.type "ValueError") = some true)
    (uxX : PySem.W.exmOne K (.ref eNoText) (.ref eCueError) = some true)
    (r5tc : PySem.W.typeIn K (.ref eCueError) = some (.type "type"))
    (r5rc : PySem.W.readsIn K eCueError (.type "type") = true)
    (r5sc : PySem.W.specialIn K (.ref eCueError) "__getattribute__" = some (some (.builtin "type.__getattribute__")))
    (r5vc : PySem.W.findCls K (.ref eCueError) (.type "type") "__init__" = some (.val (.builtin "ValueError.__init__")))
    (gcCue : PySem.W.nsIn K mainGlobals "Cue" = some (some (.ref cCue)))
    (pcCue : PySem.W.plainGet K cCue Str.empty = true)
    (hcCue : PySem.W.hasDictIn K cCue = true)
    (ocCue : PySem.W.plainOver K cCue = true)
    (scCue : PySem.W.findIn K (.ref cCue) "__setattr__" = some (some (.builtin "object.__setattr__")))
    (mcCue : PySem.W.makesIn K cCue = true)
    (kcCue : PySem.W.keepIn K (.ref cCue) = true)
    (ncCue_0 : PySem.W.findIn K (.ref cCue) "up" = some none)
    (ncCue_1 : PySem.W.findIn K (.ref cCue) "down" = some none)
    (ncCue_2 : PySem.W.findIn K (.ref cCue) "fresh" = some none)
    (ncCue_3 : PySem.W.findIn K (.ref cCue) "words" = some none)
    (gcPlay : PySem.W.nsIn K mainGlobals "Play" = some (some (.ref cPlay)))
    (pcPlay : PySem.W.plainGet K cPlay Str.empty = true)
    (hcPlay : PySem.W.hasDictIn K cPlay = true)
    (ocPlay : PySem.W.plainOver K cPlay = true)
    (scPlay : PySem.W.findIn K (.ref cPlay) "__setattr__" = some (some (.builtin "object.__setattr__")))
    (mcPlay : PySem.W.makesIn K cPlay = true)
    (kcPlay : PySem.W.keepIn K (.ref cPlay) = true)
    (ncPlay_0 : PySem.W.findIn K (.ref cPlay) "_cues" = some none)
    (gcReader : PySem.W.nsIn K mainGlobals "Reader" = some (some (.ref cReader)))
    (pcReader : PySem.W.plainGet K cReader Str.empty = true)
    (hcReader : PySem.W.hasDictIn K cReader = true)
    (ocReader : PySem.W.plainOver K cReader = true)
    (scReader : PySem.W.findIn K (.ref cReader) "__setattr__" = some (some (.builtin "object.__setattr__")))
    (mcReader : PySem.W.makesIn K cReader = true)
    (kcReader : PySem.W.keepIn K (.ref cReader) = true)
    (ncReader_0 : PySem.W.findIn K (.ref cReader) "play" = some none)
    (ncReader_1 : PySem.W.findIn K (.ref cReader) "number" = some none)
    (ncReader_2 : PySem.W.findIn K (.ref cReader) "lamp" = some none)
    (r5pa : PySem.W.findIn K (.ref cPlay) "__class__" = some (some (.builtin "object.__class__")))
    (r5pm : PySem.W.mroIn K cPlay (.type "object") = some true)
    (r5pk : PySem.W.kitOne K (.ref cPlay) (.type "int") = some false)
    (a38 : PySem.W.findIn K (.ref cCue) "__init__" = some (some (.ref f38)))
    (i38 : PySem.W.isFn K (.ref f38) = true)
    (l38 : K.lookup f38 = some ⟨oc38, od38, .func (PySem.W.fnOf "__init__" "Cue.__init__" (defArgs sCue__init__) (defBody sCue__init__) (defScope sCue__init__) .none kV38 dc38 pm38 an38 cd38 ct38), sl38⟩)
    (cd38k : PySem.W.codeIn K cd38 "Cue.__init__" = true)
    (k38 : PySem.W.keepIn K (.ref f38) = true)
    (a39 : PySem.W.findIn K (.ref cCue) "kept" = some (some (.ref f39)))
    (i39 : PySem.W.isFn K (.ref f39) = true)
    (l39 : K.lookup f39 = some ⟨oc39, od39, .func (PySem.W.fnOf "kept" "Cue.kept" (defArgs sCuekept) (defBody sCuekept) (defScope sCuekept) .none kV39 dc39 pm39 an39 cd39 ct39), sl39⟩)
    (cd39k : PySem.W.codeIn K cd39 "Cue.kept" = true)
    (k39 : PySem.W.keepIn K (.ref f39) = true)
    (a40 : PySem.W.findIn K (.ref cPlay) "__init__" = some (some (.ref f40)))
    (i40 : PySem.W.isFn K (.ref f40) = true)
    (l40 : K.lookup f40 = some ⟨oc40, od40, .func (PySem.W.fnOf "__init__" "Play.__init__" (defArgs sPlay__init__) (defBody sPlay__init__) (defScope sPlay__init__) .none kV40 dc40 pm40 an40 cd40 ct40), sl40⟩)
    (cd40k : PySem.W.codeIn K cd40 "Play.__init__" = true)
    (k40 : PySem.W.keepIn K (.ref f40) = true)
    (a41 : PySem.W.findIn K (.ref cPlay) "put" = some (some (.ref f41)))
    (i41 : PySem.W.isFn K (.ref f41) = true)
    (l41 : K.lookup f41 = some ⟨oc41, od41, .func (PySem.W.fnOf "put" "Play.put" (defArgs sPlayput) (defBody sPlayput) (defScope sPlayput) (.ref dT41) kV41 dc41 pm41 an41 cd41 ct41), sl41⟩)
    (cd41k : PySem.W.codeIn K cd41 "Play.put" = true)
    (k41 : PySem.W.keepIn K (.ref f41) = true)
    (dl41 : K.lookup dT41 = some dO41)
    (dd41 : dO41.data = .seq dI41.toArray dN41)
    (dw41 : Vals [.int 0, .int 0, .bl false] dI41)
    (a42 : PySem.W.findIn K (.ref cPlay) "tell" = some (some (.ref f42)))
    (i42 : PySem.W.isFn K (.ref f42) = true)
    (l42 : K.lookup f42 = some ⟨oc42, od42, .func (PySem.W.fnOf "tell" "Play.tell" (defArgs sPlaytell) (defBody sPlaytell) (defScope sPlaytell) .none kV42 dc42 pm42 an42 cd42 ct42), sl42⟩)
    (cd42k : PySem.W.codeIn K cd42 "Play.tell" = true)
    (k42 : PySem.W.keepIn K (.ref f42) = true)
    (a43 : PySem.W.findIn K (.ref cPlay) "untell" = some (some (.ref f43)))
    (i43 : PySem.W.isFn K (.ref f43) = true)
    (l43 : K.lookup f43 = some ⟨oc43, od43, .func (PySem.W.fnOf "untell" "Play.untell" (defArgs sPlayuntell) (defBody sPlayuntell) (defScope sPlayuntell) .none kV43 dc43 pm43 an43 cd43 ct43), sl43⟩)
    (cd43k : PySem.W.codeIn K cd43 "Play.untell" = true)
    (k43 : PySem.W.keepIn K (.ref f43) = true)
    (a44 : PySem.W.findIn K (.ref cPlay) "only" = some (some (.ref f44)))
    (i44 : PySem.W.isFn K (.ref f44) = true)
    (l44 : K.lookup f44 = some ⟨oc44, od44, .func (PySem.W.fnOf "only" "Play.only" (defArgs sPlayonly) (defBody sPlayonly) (defScope sPlayonly) .none kV44 dc44 pm44 an44 cd44 ct44), sl44⟩)
    (cd44k : PySem.W.codeIn K cd44 "Play.only" = true)
    (k44 : PySem.W.keepIn K (.ref f44) = true)
    (a45 : PySem.W.findIn K (.ref cPlay) "cut" = some (some (.ref f45)))
    (i45 : PySem.W.isFn K (.ref f45) = true)
    (l45 : K.lookup f45 = some ⟨oc45, od45, .func (PySem.W.fnOf "cut" "Play.cut" (defArgs sPlaycut) (defBody sPlaycut) (defScope sPlaycut) .none kV45 dc45 pm45 an45 cd45 ct45), sl45⟩)
    (cd45k : PySem.W.codeIn K cd45 "Play.cut" = true)
    (k45 : PySem.W.keepIn K (.ref f45) = true)
    (a46 : PySem.W.findIn K (.ref cPlay) "lift" = some (some (.ref f46)))
    (i46 : PySem.W.isFn K (.ref f46) = true)
    (l46 : K.lookup f46 = some ⟨oc46, od46, .func (PySem.W.fnOf "lift" "Play.lift" (defArgs sPlaylift) (defBody sPlaylift) (defScope sPlaylift) .none kV46 dc46 pm46 an46 cd46 ct46), sl46⟩)
    (cd46k : PySem.W.codeIn K cd46 "Play.lift" = true)
    (k46 : PySem.W.keepIn K (.ref f46) = true)
    (a47 : PySem.W.findIn K (.ref cPlay) "numbers" = some (some (.ref f47)))
    (i47 : PySem.W.isFn K (.ref f47) = true)
    (l47 : K.lookup f47 = some ⟨oc47, od47, .func (PySem.W.fnOf "numbers" "Play.numbers" (defArgs sPlaynumbers) (defBody sPlaynumbers) (defScope sPlaynumbers) .none kV47 dc47 pm47 an47 cd47 ct47), sl47⟩)
    (cd47k : PySem.W.codeIn K cd47 "Play.numbers" = true)
    (k47 : PySem.W.keepIn K (.ref f47) = true)
    (a48 : PySem.W.findIn K (.ref cPlay) "cue" = some (some (.ref f48)))
    (i48 : PySem.W.isFn K (.ref f48) = true)
    (l48 : K.lookup f48 = some ⟨oc48, od48, .func (PySem.W.fnOf "cue" "Play.cue" (defArgs sPlaycue) (defBody sPlaycue) (defScope sPlaycue) .none kV48 dc48 pm48 an48 cd48 ct48), sl48⟩)
    (cd48k : PySem.W.codeIn K cd48 "Play.cue" = true)
    (k48 : PySem.W.keepIn K (.ref f48) = true)
    (a49 : PySem.W.findIn K (.ref cPlay) "look" = some (some (.ref f49)))
    (i49 : PySem.W.isFn K (.ref f49) = true)
    (l49 : K.lookup f49 = some ⟨oc49, od49, .func (PySem.W.fnOf "look" "Play.look" (defArgs sPlaylook) (defBody sPlaylook) (defScope sPlaylook) .none kV49 dc49 pm49 an49 cd49 ct49), sl49⟩)
    (cd49k : PySem.W.codeIn K cd49 "Play.look" = true)
    (k49 : PySem.W.keepIn K (.ref f49) = true)
    (a50 : PySem.W.findIn K (.ref cPlay) "level" = some (some (.ref f50)))
    (i50 : PySem.W.isFn K (.ref f50) = true)
    (l50 : K.lookup f50 = some ⟨oc50, od50, .func (PySem.W.fnOf "level" "Play.level" (defArgs sPlaylevel) (defBody sPlaylevel) (defScope sPlaylevel) .none kV50 dc50 pm50 an50 cd50 ct50), sl50⟩)
    (cd50k : PySem.W.codeIn K cd50 "Play.level" = true)
    (k50 : PySem.W.keepIn K (.ref f50) = true)
    (a51 : PySem.W.findIn K (.ref cPlay) "spare" = some (some (.ref f51)))
    (i51 : PySem.W.isFn K (.ref f51) = true)
    (l51 : K.lookup f51 = some ⟨oc51, od51, .func (PySem.W.fnOf "spare" "Play.spare" (defArgs sPlayspare) (defBody sPlayspare) (defScope sPlayspare) .none kV51 dc51 pm51 an51 cd51 ct51), sl51⟩)
    (cd51k : PySem.W.codeIn K cd51 "Play.spare" = true)
    (k51 : PySem.W.keepIn K (.ref f51) = true)
    (a52 : PySem.W.findIn K (.ref cPlay) "least" = some (some (.ref f52)))
    (i52 : PySem.W.isFn K (.ref f52) = true)
    (l52 : K.lookup f52 = some ⟨oc52, od52, .func (PySem.W.fnOf "least" "Play.least" (defArgs sPlayleast) (defBody sPlayleast) (defScope sPlayleast) .none kV52 dc52 pm52 an52 cd52 ct52), sl52⟩)
    (cd52k : PySem.W.codeIn K cd52 "Play.least" = true)
    (k52 : PySem.W.keepIn K (.ref f52) = true)
    (a53 : PySem.W.findIn K (.ref cPlay) "_cue_of" = some (some (.ref f53)))
    (i53 : PySem.W.isFn K (.ref f53) = true)
    (l53 : K.lookup f53 = some ⟨oc53, od53, .func (PySem.W.fnOf "_cue_of" "Play._cue_of" (defArgs sPlay_cue_of) (defBody sPlay_cue_of) (defScope sPlay_cue_of) .none kV53 dc53 pm53 an53 cd53 ct53), sl53⟩)
    (cd53k : PySem.W.codeIn K cd53 "Play._cue_of" = true)
    (k53 : PySem.W.keepIn K (.ref f53) = true)
    (a54 : PySem.W.findIn K (.ref cPlay) "_levels_at" = some (some (.ref f54)))
    (i54 : PySem.W.isFn K (.ref f54) = true)
    (l54 : K.lookup f54 = some ⟨oc54, od54, .func (PySem.W.fnOf "_levels_at" "Play._levels_at" (defArgs sPlay_levels_at) (defBody sPlay_levels_at) (defScope sPlay_levels_at) .none kV54 dc54 pm54 an54 cd54 ct54), sl54⟩)
    (cd54k : PySem.W.codeIn K cd54 "Play._levels_at" = true)
    (k54 : PySem.W.keepIn K (.ref f54) = true)
    (a55 : PySem.W.findIn K (.ref cPlay) "_behind" = some (some (.ref f55)))
    (i55 : PySem.W.isFn K (.ref f55) = true)
    (l55 : K.lookup f55 = some ⟨oc55, od55, .func (PySem.W.fnOf "_behind" "Play._behind" (defArgs sPlay_behind) (defBody sPlay_behind) (defScope sPlay_behind) .none kV55 dc55 pm55 an55 cd55 ct55), sl55⟩)
    (cd55k : PySem.W.codeIn K cd55 "Play._behind" = true)
    (k55 : PySem.W.keepIn K (.ref f55) = true)
    (a56 : PySem.W.findIn K (.ref cPlay) "_look_behind" = some (some (.ref f56)))
    (i56 : PySem.W.isFn K (.ref f56) = true)
    (l56 : K.lookup f56 = some ⟨oc56, od56, .func (PySem.W.fnOf "_look_behind" "Play._look_behind" (defArgs sPlay_look_behind) (defBody sPlay_look_behind) (defScope sPlay_look_behind) .none kV56 dc56 pm56 an56 cd56 ct56), sl56⟩)
    (cd56k : PySem.W.codeIn K cd56 "Play._look_behind" = true)
    (k56 : PySem.W.keepIn K (.ref f56) = true)
    (a57 : PySem.W.findIn K (.ref cPlay) "_hold_behind" = some (some (.ref f57)))
    (i57 : PySem.W.isFn K (.ref f57) = true)
    (l57 : K.lookup f57 = some ⟨oc57, od57, .func (PySem.W.fnOf "_hold_behind" "Play._hold_behind" (defArgs sPlay_hold_behind) (defBody sPlay_hold_behind) (defScope sPlay_hold_behind) .none kV57 dc57 pm57 an57 cd57 ct57), sl57⟩)
    (cd57k : PySem.W.codeIn K cd57 "Play._hold_behind" = true)
    (k57 : PySem.W.keepIn K (.ref f57) = true)
    (a58 : PySem.W.findIn K (.ref cReader) "__init__" = some (some (.ref f58)))
    (i58 : PySem.W.isFn K (.ref f58) = true)
    (l58 : K.lookup f58 = some ⟨oc58, od58, .func (PySem.W.fnOf "__init__" "Reader.__init__" (defArgs sReader__init__) (defBody sReader__init__) (defScope sReader__init__) .none kV58 dc58 pm58 an58 cd58 ct58), sl58⟩)
    (cd58k : PySem.W.codeIn K cd58 "Reader.__init__" = true)
    (k58 : PySem.W.keepIn K (.ref f58) = true)
    (a59 : PySem.W.findIn K (.ref cReader) "takes" = some (some (.ref f59)))
    (i59 : PySem.W.isFn K (.ref f59) = true)
    (l59 : K.lookup f59 = some ⟨oc59, od59, .func (PySem.W.fnOf "takes" "Reader.takes" (defArgs sReadertakes) (defBody sReadertakes) (defScope sReadertakes) .none kV59 dc59 pm59 an59 cd59 ct59), sl59⟩)
    (cd59k : PySem.W.codeIn K cd59 "Reader.takes" = true)
    (k59 : PySem.W.keepIn K (.ref f59) = true)
    (a60 : PySem.W.findIn K (.ref cReader) "_takes_cue" = some (some (.ref f60)))
    (i60 : PySem.W.isFn K (.ref f60) = true)
    (l60 : K.lookup f60 = some ⟨oc60, od60, .func (PySem.W.fnOf "_takes_cue" "Reader._takes_cue" (defArgs sReader_takes_cue) (defBody sReader_takes_cue) (defScope sReader_takes_cue) .none kV60 dc60 pm60 an60 cd60 ct60), sl60⟩)
    (cd60k : PySem.W.codeIn K cd60 "Reader._takes_cue" = true)
    (k60 : PySem.W.keepIn K (.ref f60) = true)
    (a61 : PySem.W.findIn K (.ref cReader) "_takes_word" = some (some (.ref f61)))
    (i61 : PySem.W.isFn K (.ref f61) = true)
    (l61 : K.lookup f61 = some ⟨oc61, od61, .func (PySem.W.fnOf "_takes_word" "Reader._takes_word" (defArgs sReader_takes_word) (defBody sReader_takes_word) (defScope sReader_takes_word) .none kV61 dc61 pm61 an61 cd61 ct61), sl61⟩)
    (cd61k : PySem.W.codeIn K cd61 "Reader._takes_word" = true)
    (k61 : PySem.W.keepIn K (.ref f61) = true)
    (q1 : PySem.W.nsIn K mainGlobals "FIRST_CUE" = some (some (.int (1) t1)))
    (q2 : PySem.W.nsIn K mainGlobals "LAST_CUE" = some (some (.int (999999) t2)))
    (q3 : PySem.W.nsIn K mainGlobals "LONGEST_LAMP" = some (some (.int (8) t3)))
    (q4 : PySem.W.nsIn K mainGlobals "FULL_LEVEL" = some (some (.int (100) t4)))
    (q5 : PySem.W.nsIn K mainGlobals "LONGEST_FADE" = some (some (.int (6000) t5)))
    (q6 : PySem.W.nsIn K mainGlobals "MOST_CUES" = some (some (.int (100) t6)))
    (q7 : PySem.W.nsIn K mainGlobals "MOST_FIGURES" = some (some (.int (6) t7)))
    (q8 : PySem.W.nsIn K mainGlobals "NO_NUMBER" = some (some (.int (-1) t8)))
    (qs1 : PySem.W.nsIn K mainGlobals "CUE_WORD" = some (some (.str "cue" st1)))
    (qs2 : PySem.W.nsIn K mainGlobals "FRESH_WORD" = some (some (.str "fresh" st2)))
    (z1 : PySem.W.nsIn K mainGlobals "len" = some none)
    (z2 : PySem.W.nsIn K mainGlobals "isinstance" = some none)
    (z3 : PySem.W.nsIn K mainGlobals "type" = some none)
    (z4 : PySem.W.nsIn K mainGlobals "sorted" = some none)
    (z5 : PySem.W.nsIn K mainGlobals "list" = some none)
    (z6 : PySem.W.nsIn K mainGlobals "dict" = some none)
    (z7 : PySem.W.nsIn K mainGlobals "str" = some none)
    (z8 : PySem.W.nsIn K mainGlobals "int" = some none)
    (z9 : PySem.W.nsIn K mainGlobals "all" = some none)
    (z10 : PySem.W.nsIn K mainGlobals "max" = some none)
    (z11 : PySem.W.nsIn K mainGlobals "min" = some none)
    (z12 : PySem.W.nsIn K mainGlobals "range" = some none)
    (z13 : PySem.W.nsIn K mainGlobals "enumerate" = some none)
    (z14 : PySem.W.nsIn K mainGlobals "zip" = some none)
    (z15 : PySem.W.nsIn K mainGlobals "tuple" = some none)
    (z16 : PySem.W.nsIn K mainGlobals "bool" = some none)
    (z17 : PySem.W.nsIn K mainGlobals "ValueError" = some none)
    (kn2 : known "is_lamp")
    (tb2 : PySem.W.tabIn K "is_lamp" = some (c2, P2))
    (nT2 : K.lookup P2 = none)
    (kn8 : known "_number_of")
    (tb8 : PySem.W.tabIn K "_number_of" = some (c8, P8))
    (nT8 : K.lookup P8 = none)
    : LX.LawAt l w K 26 63 "_law_script" mg fa h := by
  have e := hfa.symm.trans (PySem.W.mg_of X G a37)
  cases e
  obtain ⟨hC2, hP2⟩ := tabs _ _ _ kn2 tb2
  obtain ⟨hC8, hP8⟩ := tabs _ _ _ kn8 tb8
  have D1 : Df K mg "is_cue" "is_cue" sis_cue ["thing"] [] := df_mk (PySem.W.mg_of X G a1) l1 cd1k k1 (fun _ _ _ _ _ _ us hl => match us, hl with | [_], _ => rfl)
  have D2 : DfC K mg "is_lamp" "is_lamp" sis_lamp ["thing"] c2 := ⟨⟨f2, _, _, _, _, _, _, _, _, PySem.W.mg_of X G a2, l2, cd2k, k2⟩, fun _ _ _ _ _ _ us hl => match us, hl with | [_], _ => rfl⟩
  have D3 : Df K mg "is_level" "is_level" sis_level ["thing"] [] := df_mk (PySem.W.mg_of X G a3) l3 cd3k k3 (fun _ _ _ _ _ _ us hl => match us, hl with | [_], _ => rfl)
  have D4 : Df K mg "is_fade" "is_fade" sis_fade ["thing"] [] := df_mk (PySem.W.mg_of X G a4) l4 cd4k k4 (fun _ _ _ _ _ _ us hl => match us, hl with | [_], _ => rfl)
  have D5 : Df K mg "_is_number" "_is_number" s_is_number ["thing", "lowest", "highest"] [] := df_mk (PySem.W.mg_of X G a5) l5 cd5k k5 (fun _ _ _ _ _ _ us hl => match us, hl with | [_, _, _], _ => rfl)
  have D6 : Df K mg "_is_small_letter" "_is_small_letter" s_is_small_letter ["sign"] [] := df_mk (PySem.W.mg_of X G a6) l6 cd6k k6 (fun _ _ _ _ _ _ us hl => match us, hl with | [_], _ => rfl)
  have D7 : Df K mg "read" "read" sread ["text"] [] := df_mk (PySem.W.mg_of X G a7) l7 cd7k k7 (fun _ _ _ _ _ _ us hl => match us, hl with | [_], _ => rfl)
  have D8 : DfC K mg "_number_of" "_number_of" s_number_of ["word"] c8 := ⟨⟨f8, _, _, _, _, _, _, _, _, PySem.W.mg_of X G a8, l8, cd8k, k8⟩, fun _ _ _ _ _ _ us hl => match us, hl with | [_], _ => rfl⟩
  have D9 : Df K mg "_is_figure" "_is_figure" s_is_figure ["sign"] [] := df_mk (PySem.W.mg_of X G a9) l9 cd9k k9 (fun _ _ _ _ _ _ us hl => match us, hl with | [_], _ => rfl)
  have D10 : Df K mg "_law_mixed" "_law_mixed" s_law_mixed ["_law_cell_here", "_law_k"] [] := df_mk (PySem.W.mg_of X G a10) l10 cd10k k10 (fun _ _ _ _ _ _ us hl => match us, hl with | [_, _], _ => rfl)
  have D11 : Df K mg "_law_cell" "_law_cell" s_law_cell ["_law_script", "_law_k"] [] := df_mk (PySem.W.mg_of X G a11) l11 cd11k k11 (fun _ _ _ _ _ _ us hl => match us, hl with | [_, _], _ => rfl)
  have D12 : Df K mg "_law_lamps" "_law_lamps" s_law_lamps ["_law_cell_here"] [] := df_mk (PySem.W.mg_of X G a12) l12 cd12k k12 (fun _ _ _ _ _ _ us hl => match us, hl with | [_], _ => rfl)
  have D13 : Df K mg "_law_numbers" "_law_numbers" s_law_numbers ["_law_cell_here"] [] := df_mk (PySem.W.mg_of X G a13) l13 cd13k k13 (fun _ _ _ _ _ _ us hl => match us, hl with | [_], _ => rfl)
  have D14 : Df K mg "_law_level" "_law_level" s_law_level ["_law_model", "_law_number", "_law_lamp"] [] := df_mk (PySem.W.mg_of X G a14) l14 cd14k k14 (fun _ _ _ _ _ _ us hl => match us, hl with | [_, _, _], _ => rfl)
  have D15 : Df K mg "_law_look" "_law_look" s_law_look ["_law_model", "_law_number", "_law_lamps_here"] [] := df_mk (PySem.W.mg_of X G a15) l15 cd15k k15 (fun _ _ _ _ _ _ us hl => match us, hl with | [_, _, _], _ => rfl)
  have D16 : Df K mg "_law_whole" "_law_whole" s_law_whole ["_law_found"] [] := df_mk (PySem.W.mg_of X G a16) l16 cd16k k16 (fun _ _ _ _ _ _ us hl => match us, hl with | [_], _ => rfl)
  have D17 : Df K mg "_law_same" "_law_same" s_law_same ["_law_found", "_law_due"] [] := df_mk (PySem.W.mg_of X G a17) l17 cd17k k17 (fun _ _ _ _ _ _ us hl => match us, hl with | [_, _], _ => rfl)
  have D18 : Df K mg "_law_cue_right" "_law_cue_right" s_law_cue_right ["_law_play", "_law_model", "_law_number"] [] := df_mk (PySem.W.mg_of X G a18) l18 cd18k k18 (fun _ _ _ _ _ _ us hl => match us, hl with | [_, _, _], _ => rfl)
  have D19 : Df K mg "_law_stands" "_law_stands" s_law_stands ["_law_play", "_law_model", "_law_lamps_here"] [] := df_mk (PySem.W.mg_of X G a19) l19 cd19k k19 (fun _ _ _ _ _ _ us hl => match us, hl with | [_, _, _], _ => rfl)
  have D20 : Df K mg "_law_hold" "_law_hold" s_law_hold ["_law_model", "_law_number", "_law_lamp", "_law_due"] [] := df_mk (PySem.W.mg_of X G a20) l20 cd20k k20 (fun _ _ _ _ _ _ us hl => match us, hl with | [_, _, _, _], _ => rfl)
  have D21 : Df K mg "_law_behind" "_law_behind" s_law_behind ["_law_model", "_law_number"] [] := df_mk (PySem.W.mg_of X G a21) l21 cd21k k21 (fun _ _ _ _ _ _ us hl => match us, hl with | [_, _], _ => rfl)
  have D22 : Df K mg "_law_put" "_law_put" s_law_put ["_law_play", "_law_model", "_law_number", "_law_mix"] [] := df_mk (PySem.W.mg_of X G a22) l22 cd22k k22 (fun _ _ _ _ _ _ us hl => match us, hl with | [_, _, _, _], _ => rfl)
  have D23 : Df K mg "_law_only" "_law_only" s_law_only ["_law_play", "_law_model", "_law_number", "_law_lamp", "_law_level_here"] [] := df_mk (PySem.W.mg_of X G a23) l23 cd23k k23 (fun _ _ _ _ _ _ us hl => match us, hl with | [_, _, _, _, _], _ => rfl)
  have D24 : Df K mg "_law_lift" "_law_lift" s_law_lift ["_law_play", "_law_model", "_law_number", "_law_lamps_here"] [] := df_mk (PySem.W.mg_of X G a24) l24 cd24k k24 (fun _ _ _ _ _ _ us hl => match us, hl with | [_, _, _, _], _ => rfl)
  have D25 : Df K mg "_law_done" "_law_done" s_law_done ["_law_play", "_law_model", "_law_lamps_here", "_law_numbers_here", "_law_mix"] [] := df_mk (PySem.W.mg_of X G a25) l25 cd25k k25 (fun _ _ _ _ _ _ us hl => match us, hl with | [_, _, _, _, _], _ => rfl)
  have D26 : Df K mg "_law_built" "_law_built" s_law_built ["_law_script", "_law_first", "_law_many"] [] := df_mk (PySem.W.mg_of X G a26) l26 cd26k k26 (fun _ _ _ _ _ _ us hl => match us, hl with | [_, _, _], _ => rfl)
  have D27 : Df K mg "_law_class" "_law_class" s_law_class ["_law_e"] [] := df_mk (PySem.W.mg_of X G a27) l27 cd27k k27 (fun _ _ _ _ _ _ us hl => match us, hl with | [_], _ => rfl)
  have D28 : Df K mg "_law_number_in" "_law_number_in" s_law_number_in ["_law_word"] [] := df_mk (PySem.W.mg_of X G a28) l28 cd28k k28 (fun _ _ _ _ _ _ us hl => match us, hl with | [_], _ => rfl)
  have D29 : Df K mg "_law_cue_in" "_law_cue_in" s_law_cue_in ["_law_words", "_law_model"] [] := df_mk (PySem.W.mg_of X G a29) l29 cd29k k29 (fun _ _ _ _ _ _ us hl => match us, hl with | [_, _], _ => rfl)
  have D30 : Df K mg "_law_word_in" "_law_word_in" s_law_word_in ["_law_words", "_law_model"] [] := df_mk (PySem.W.mg_of X G a30) l30 cd30k k30 (fun _ _ _ _ _ _ us hl => match us, hl with | [_, _], _ => rfl)
  have D31 : Df K mg "_law_read" "_law_read" s_law_read ["_law_text_here"] [] := df_mk (PySem.W.mg_of X G a31) l31 cd31k k31 (fun _ _ _ _ _ _ us hl => match us, hl with | [_], _ => rfl)
  have D32 : Df K mg "_law_text" "_law_text" s_law_text ["_law_model"] [] := df_mk (PySem.W.mg_of X G a32) l32 cd32k k32 (fun _ _ _ _ _ _ us hl => match us, hl with | [_], _ => rfl)
  have D33 : Df K mg "_law_bad" "_law_bad" s_law_bad ["_law_mix"] [] := df_mk (PySem.W.mg_of X G a33) l33 cd33k k33 (fun _ _ _ _ _ _ us hl => match us, hl with | [_], _ => rfl)
  have D34 : Df K mg "_law_changed" "_law_changed" s_law_changed ["_law_text_here", "_law_mix"] [] := df_mk (PySem.W.mg_of X G a34) l34 cd34k k34 (fun _ _ _ _ _ _ us hl => match us, hl with | [_, _], _ => rfl)
  have D35 : Df K mg "_law_tried" "_law_tried" s_law_tried ["_law_text_here"] [] := df_mk (PySem.W.mg_of X G a35) l35 cd35k k35 (fun _ _ _ _ _ _ us hl => match us, hl with | [_], _ => rfl)
  have D36 : Df K mg "_law_told_lamps" "_law_told_lamps" s_law_told_lamps ["_law_model"] [] := df_mk (PySem.W.mg_of X G a36) l36 cd36k k36 (fun _ _ _ _ _ _ us hl => match us, hl with | [_], _ => rfl)
  have F := fun_mk (st := slaw) l37 cd37k k37
  have T : Top K mg := ⟨D1, D3, D4, D5, D6, D7, D9, D10, D11, D12, D13, D14, D15, D16, D17, D18, D19, D20, D21, D22, D23, D24, D25, D26, D27, D28, D29, D30, D31, D32, D33, D34, D35, D36, PySem.W.mg_none_of X G z1, PySem.W.mg_none_of X G z2, PySem.W.mg_none_of X G z3, PySem.W.mg_none_of X G z4, PySem.W.mg_none_of X G z5, PySem.W.mg_none_of X G z6, PySem.W.mg_none_of X G z7, PySem.W.mg_none_of X G z8, PySem.W.mg_none_of X G z9, PySem.W.mg_none_of X G z10, PySem.W.mg_none_of X G z11, PySem.W.mg_none_of X G z12, PySem.W.mg_none_of X G z13, PySem.W.mg_none_of X G z14, PySem.W.mg_none_of X G z15, PySem.W.mg_none_of X G z16, PySem.W.mg_none_of X G z17, ⟨_, PySem.W.mg_of X G q1⟩, ⟨_, PySem.W.mg_of X G q2⟩, ⟨_, PySem.W.mg_of X G q3⟩, ⟨_, PySem.W.mg_of X G q4⟩, ⟨_, PySem.W.mg_of X G q5⟩, ⟨_, PySem.W.mg_of X G q6⟩, ⟨_, PySem.W.mg_of X G q7⟩, ⟨_, PySem.W.mg_of X G q8⟩, ⟨_, PySem.W.mg_of X G qs1⟩, ⟨_, PySem.W.mg_of X G qs2⟩⟩
  have Gp : Prg K mg eNoCue eTaken eTooMany eNoLamp eNoLevel eNoTime eNoText cCue cPlay cReader := ⟨⟨PySem.W.mg_of X G geNoCue, xeNoCue, keNoCue, beNoCue, teNoCue⟩, ⟨PySem.W.mg_of X G geTaken, xeTaken, keTaken, beTaken, teTaken⟩, ⟨PySem.W.mg_of X G geTooMany, xeTooMany, keTooMany, beTooMany, teTooMany⟩, ⟨PySem.W.mg_of X G geNoLamp, xeNoLamp, keNoLamp, beNoLamp, teNoLamp⟩, ⟨PySem.W.mg_of X G geNoLevel, xeNoLevel, keNoLevel, beNoLevel, teNoLevel⟩, ⟨PySem.W.mg_of X G geNoTime, xeNoTime, keNoTime, beNoTime, teNoTime⟩, ⟨pcCue, hcCue, ocCue, scCue⟩, PySem.W.mg_of X G gcCue, cm_mk a38 i38 l38 cd38k k38 mcCue kcCue (fun _ _ _ _ _ _ us hl => match us, hl with | [_, _, _, _], _ => rfl), md_mk a39 i39 l39 cd39k k39 (fun _ _ _ _ _ _ us hl => match us, hl with | [_, _], _ => rfl), ncCue_0, ncCue_1, ncCue_2, ncCue_3, ⟨pcPlay, hcPlay, ocPlay, scPlay⟩, PySem.W.mg_of X G gcPlay, cm_mk a40 i40 l40 cd40k k40 mcPlay kcPlay (fun _ _ _ _ _ _ us hl => match us, hl with | [_], _ => rfl), mdd_mk a41 i41 l41 cd41k k41 dl41 dd41 dw41 (by decide), md_mk a42 i42 l42 cd42k k42 (fun _ _ _ _ _ _ us hl => match us, hl with | [_, _, _, _], _ => rfl), md_mk a43 i43 l43 cd43k k43 (fun _ _ _ _ _ _ us hl => match us, hl with | [_, _, _], _ => rfl), md_mk a44 i44 l44 cd44k k44 (fun _ _ _ _ _ _ us hl => match us, hl with | [_, _, _, _], _ => rfl), md_mk a45 i45 l45 cd45k k45 (fun _ _ _ _ _ _ us hl => match us, hl with | [_, _], _ => rfl), md_mk a46 i46 l46 cd46k k46 (fun _ _ _ _ _ _ us hl => match us, hl with | [_, _], _ => rfl), md_mk a47 i47 l47 cd47k k47 (fun _ _ _ _ _ _ us hl => match us, hl with | [_], _ => rfl), md_mk a48 i48 l48 cd48k k48 (fun _ _ _ _ _ _ us hl => match us, hl with | [_, _], _ => rfl), md_mk a49 i49 l49 cd49k k49 (fun _ _ _ _ _ _ us hl => match us, hl with | [_, _], _ => rfl), md_mk a50 i50 l50 cd50k k50 (fun _ _ _ _ _ _ us hl => match us, hl with | [_, _, _], _ => rfl), md_mk a51 i51 l51 cd51k k51 (fun _ _ _ _ _ _ us hl => match us, hl with | [_], _ => rfl), md_mk a52 i52 l52 cd52k k52 (fun _ _ _ _ _ _ us hl => match us, hl with | [_], _ => rfl), md_mk a53 i53 l53 cd53k k53 (fun _ _ _ _ _ _ us hl => match us, hl with | [_, _], _ => rfl), md_mk a54 i54 l54 cd54k k54 (fun _ _ _ _ _ _ us hl => match us, hl with | [_, _], _ => rfl), md_mk a55 i55 l55 cd55k k55 (fun _ _ _ _ _ _ us hl => match us, hl with | [_, _], _ => rfl), md_mk a56 i56 l56 cd56k k56 (fun _ _ _ _ _ _ us hl => match us, hl with | [_, _], _ => rfl), md_mk a57 i57 l57 cd57k k57 (fun _ _ _ _ _ _ us hl => match us, hl with | [_, _, _], _ => rfl), ncPlay_0, ⟨pcReader, hcReader, ocReader, scReader⟩, PySem.W.mg_of X G gcReader, cm_mk a58 i58 l58 cd58k k58 mcReader kcReader (fun _ _ _ _ _ _ us hl => match us, hl with | [_], _ => rfl), md_mk a59 i59 l59 cd59k k59 (fun _ _ _ _ _ _ us hl => match us, hl with | [_, _], _ => rfl), md_mk a60 i60 l60 cd60k k60 (fun _ _ _ _ _ _ us hl => match us, hl with | [_, _, _], _ => rfl), md_mk a61 i61 l61 cd61k k61 (fun _ _ _ _ _ _ us hl => match us, hl with | [_, _, _], _ => rfl), ncReader_0, ncReader_1, ncReader_2⟩
  have EXp : Exs K mg eCueError eNoCue eTaken eTooMany eNoLamp eNoLevel eNoTime := ⟨PySem.W.mg_of X G geCueError, uxeNoCue, uxeTaken, uxeTooMany, uxeNoLamp, uxeNoLevel, uxeNoTime⟩
  have Np : NoTx K mg eCueError eNoText := ⟨PySem.W.mg_of X G geNoText, PySem.W.mg_of X G geCueError, md_mk aX iX lX cdXk kX (fun _ _ _ _ _ _ us hl => match us, hl with | [_, _], _ => rfl), ⟨RK.oexB_ok oxb, saX, beX, teX, keX⟩, nrX, ⟨r0eNoText, r1eNoText, beX, r2eNoText⟩, ⟨r0eNoText, r1eNoText, beX, r2eNoText, r3eNoText, rn, rt, r4eNoText⟩, r5tc, r5rc, r5sc, r5vc⟩
  have NKp : RY.KindF K eNoText 6 eNoCue eTaken eTooMany eNoLamp eNoLevel eNoTime eNoText eCueError := ⟨⟨r0eNoText, r1eNoText, beX, r2eNoText, r3eNoText, rn, rt, r4eNoText⟩, u0eNoText, u1eNoText, u2eNoText, u3eNoText, u4eNoText, u5eNoText, u6eNoText, uveNoText, uxX⟩
  have NIp : NInt K cPlay := ⟨r5pa, rn, rt, r5pm, r5pk⟩
  have Sm := fun_mk (st := s_is_small_letter) l6 cd6k k6
  have pl : ∀ base : Heap, L2.Mod K mg base → (∀ p ∈ ([(c2, P2), (c8, P8)] : List (Addr × Addr)), GxR.TabB base mg p.1 p.2) → Pl l.prog w K mg base cPlay (playAt cPlay cCue (fun b => ∃ p ∈ ([(c2, P2), (c8, P8)] : List (Addr × Addr)), b = p.2) True True) := fun base hM hB => pl_ok T Gp ⟨D2, hB _ (List.mem_cons_self), Sm, PySem.W.mg_of X G a6⟩ _ ⟨_, (List.mem_cons_self), rfl⟩
  have Fg := fun_mk (st := s_is_figure) l9 cd9k k9
  have Up := fun (base : Heap) (hM : L2.Mod K mg base) (hB : ∀ p ∈ ([(c2, P2), (c8, P8)] : List (Addr × Addr)), GxR.TabB base mg p.1 p.2) => rdU_ok (P := l.prog) (w := w) (K := K) (mg := mg) (base := base) T Gp ⟨D2, hB _ (List.mem_cons_self), Sm, PySem.W.mg_of X G a6⟩ (fun b => ∃ p ∈ ([(c2, P2), (c8, P8)] : List (Addr × Addr)), b = p.2) ⟨_, (List.mem_cons_self), rfl⟩
  have Nt := fun (base : Heap) (hM : L2.Mod K mg base) (hB : ∀ p ∈ ([(c2, P2), (c8, P8)] : List (Addr × Addr)), GxR.TabB base mg p.1 p.2) => (numT_mk D8 (hB _ (List.mem_cons_of_mem _ (List.mem_cons_self))) Fg (PySem.W.mg_of X G a9))
  have Hn := fun (base : Heap) (hM : L2.Mod K mg base) (hB : ∀ p ∈ ([(c2, P2), (c8, P8)] : List (Addr × Addr)), GxR.TabB base mg p.1 p.2) => (show (fun b => ∃ p ∈ ([(c2, P2), (c8, P8)] : List (Addr × Addr)), b = p.2) P8 from ⟨_, (List.mem_cons_of_mem _ (List.mem_cons_self)), rfl⟩)
  refine ⟨PySem.W.fnOf "law" "law" (defArgs slaw) (defBody slaw) (defScope slaw) .none kV37 dc37 pm37 an37 cd37 ct37, [(c2, P2), (c8, P8)], spLaw K (fun b => ∃ p ∈ ([(c2, P2), (c8, P8)] : List (Addr × Addr)), b = p.2), fun p hp => ?_, fun p hp => ?_, fun p hp => ?_, fun s v => .of_eq rfl, fun H a ns hl _ hT hS => ?_, fun base hM hB => ok_law T (pl base hM hB) trivial trivial Gp (Up base hM hB) EXp (Nt base hM hB) (Hn base hM hB) Np NKp NIp F⟩
  · simp only [List.mem_cons, List.not_mem_nil, or_false] at hp
    rcases hp with rfl | rfl
    · exact hP2
    · exact hP8
  · simp only [List.mem_cons, List.not_mem_nil, or_false] at hp
    rcases hp with rfl | rfl
    · exact nT2
    · exact nT8
  · simp only [List.mem_cons, List.not_mem_nil, or_false] at hp
    rcases hp with rfl | rfl
    · exact hC2
    · exact hC8
  · refine ⟨a, ns, rfl, hS, hl, fun b hb => ?_, fun H2 e => ⟨rfl, fun p hp => ?_⟩⟩
    · obtain ⟨p, hp, rfl⟩ := hb
      exact hT p hp
    · have z := hT p hp
      exact (e _ _ z).trans z.symm
end
end LW
open PySem PySem.W PyProof.Rows
set_option maxHeartbeats 0 in
theorem PySem.Challenge.cw_cuehall_k10_texts_not_read_holds : PySem.Challenge.rw_cuehall_k10_texts_not_read.Holds := by
  w_on; o_law; k_head; (case hw => w_witness2)
  k_fill
  refine LX.walk (l := PySem.Challenge.rw_cuehall_k10_texts_not_read) (n := 63) (k := 26) (x := "_law_script") rfl (by decide) rfl ⟨rfl, by decide, by decide⟩ (fun w h Y => PySem.W.kIn_of Y) ?F
  case F =>
    intro w mg fa h KX G hmg tabs
    refine' LW.all_mk KX G hmg tabs ?a1 ?l1 ?cd1k ?k1 ?a2 ?l2 ?cd2k ?k2 ?a3 ?l3 ?cd3k ?k3 ?a4 ?l4 ?cd4k ?k4 ?a5 ?l5 ?cd5k ?k5 ?a6 ?l6 ?cd6k ?k6 ?a7 ?l7 ?cd7k ?k7 ?a8 ?l8 ?cd8k ?k8 ?a9 ?l9 ?cd9k ?k9 ?a10 ?l10 ?cd10k ?k10 ?a11 ?l11 ?cd11k ?k11 ?a12 ?l12 ?cd12k ?k12 ?a13 ?l13 ?cd13k ?k13 ?a14 ?l14 ?cd14k ?k14 ?a15 ?l15 ?cd15k ?k15 ?a16 ?l16 ?cd16k ?k16 ?a17 ?l17 ?cd17k ?k17 ?a18 ?l18 ?cd18k ?k18 ?a19 ?l19 ?cd19k ?k19 ?a20 ?l20 ?cd20k ?k20 ?a21 ?l21 ?cd21k ?k21 ?a22 ?l22 ?cd22k ?k22 ?a23 ?l23 ?cd23k ?k23 ?a24 ?l24 ?cd24k ?k24 ?a25 ?l25 ?cd25k ?k25 ?a26 ?l26 ?cd26k ?k26 ?a27 ?l27 ?cd27k ?k27 ?a28 ?l28 ?cd28k ?k28 ?a29 ?l29 ?cd29k ?k29 ?a30 ?l30 ?cd30k ?k30 ?a31 ?l31 ?cd31k ?k31 ?a32 ?l32 ?cd32k ?k32 ?a33 ?l33 ?cd33k ?k33 ?a34 ?l34 ?cd34k ?k34 ?a35 ?l35 ?cd35k ?k35 ?a36 ?l36 ?cd36k ?k36 ?a37 ?l37 ?cd37k ?k37 ?geNoCue ?xeNoCue ?keNoCue ?beNoCue ?teNoCue ?geTaken ?xeTaken ?keTaken ?beTaken ?teTaken ?geTooMany ?xeTooMany ?keTooMany ?beTooMany ?teTooMany ?geNoLamp ?xeNoLamp ?keNoLamp ?beNoLamp ?teNoLamp ?geNoLevel ?xeNoLevel ?keNoLevel ?beNoLevel ?teNoLevel ?geNoTime ?xeNoTime ?keNoTime ?beNoTime ?teNoTime ?geCueError ?geNoText ?uxeNoCue ?uxeTaken ?uxeTooMany ?uxeNoLamp ?uxeNoLevel ?uxeNoTime ?aX ?iX ?lX ?cdXk ?kX ?oxb ?saX ?beX ?teX ?keX ?nrX ?r0eNoText ?r1eNoText ?r2eNoText ?r3eNoText ?r4eNoText ?rn ?rt ?u0eNoText ?u1eNoText ?u2eNoText ?u3eNoText ?u4eNoText ?u5eNoText ?u6eNoText ?uveNoText ?uxX ?r5tc ?r5rc ?r5sc ?r5vc ?gcCue ?pcCue ?hcCue ?ocCue ?scCue ?mcCue ?kcCue ?ncCue_0 ?ncCue_1 ?ncCue_2 ?ncCue_3 ?gcPlay ?pcPlay ?hcPlay ?ocPlay ?scPlay ?mcPlay ?kcPlay ?ncPlay_0 ?gcReader ?pcReader ?hcReader ?ocReader ?scReader ?mcReader ?kcReader ?ncReader_0 ?ncReader_1 ?ncReader_2 ?r5pa ?r5pm ?r5pk ?a38 ?i38 ?l38 ?cd38k ?k38 ?a39 ?i39 ?l39 ?cd39k ?k39 ?a40 ?i40 ?l40 ?cd40k ?k40 ?a41 ?i41 ?l41 ?cd41k ?k41 ?dl41 ?dd41 ?dw41 ?a42 ?i42 ?l42 ?cd42k ?k42 ?a43 ?i43 ?l43 ?cd43k ?k43 ?a44 ?i44 ?l44 ?cd44k ?k44 ?a45 ?i45 ?l45 ?cd45k ?k45 ?a46 ?i46 ?l46 ?cd46k ?k46 ?a47 ?i47 ?l47 ?cd47k ?k47 ?a48 ?i48 ?l48 ?cd48k ?k48 ?a49 ?i49 ?l49 ?cd49k ?k49 ?a50 ?i50 ?l50 ?cd50k ?k50 ?a51 ?i51 ?l51 ?cd51k ?k51 ?a52 ?i52 ?l52 ?cd52k ?k52 ?a53 ?i53 ?l53 ?cd53k ?k53 ?a54 ?i54 ?l54 ?cd54k ?k54 ?a55 ?i55 ?l55 ?cd55k ?k55 ?a56 ?i56 ?l56 ?cd56k ?k56 ?a57 ?i57 ?l57 ?cd57k ?k57 ?a58 ?i58 ?l58 ?cd58k ?k58 ?a59 ?i59 ?l59 ?cd59k ?k59 ?a60 ?i60 ?l60 ?cd60k ?k60 ?a61 ?i61 ?l61 ?cd61k ?k61 ?q1 ?q2 ?q3 ?q4 ?q5 ?q6 ?q7 ?q8 ?qs1 ?qs2 ?z1 ?z2 ?z3 ?z4 ?z5 ?z6 ?z7 ?z8 ?z9 ?z10 ?z11 ?z12 ?z13 ?z14 ?z15 ?z16 ?z17 ?kn2 ?tb2 ?nT2 ?kn8 ?tb8 ?nT8
    (case a1 => k_is)
    (case l1 => k_is)
    (case cd1k => k_is)
    (case k1 => k_is)
    (case a2 => k_is)
    (case l2 => k_is)
    (case cd2k => k_is)
    (case k2 => k_is)
    (case a3 => k_is)
    (case l3 => k_is)
    (case cd3k => k_is)
    (case k3 => k_is)
    (case a4 => k_is)
    (case l4 => k_is)
    (case cd4k => k_is)
    (case k4 => k_is)
    (case a5 => k_is)
    (case l5 => k_is)
    (case cd5k => k_is)
    (case k5 => k_is)
    (case a6 => k_is)
    (case l6 => k_is)
    (case cd6k => k_is)
    (case k6 => k_is)
    (case a7 => k_is)
    (case l7 => k_is)
    (case cd7k => k_is)
    (case k7 => k_is)
    (case a8 => k_is)
    (case l8 => k_is)
    (case cd8k => k_is)
    (case k8 => k_is)
    (case a9 => k_is)
    (case l9 => k_is)
    (case cd9k => k_is)
    (case k9 => k_is)
    (case a10 => k_is)
    (case l10 => k_is)
    (case cd10k => k_is)
    (case k10 => k_is)
    (case a11 => k_is)
    (case l11 => k_is)
    (case cd11k => k_is)
    (case k11 => k_is)
    (case a12 => k_is)
    (case l12 => k_is)
    (case cd12k => k_is)
    (case k12 => k_is)
    (case a13 => k_is)
    (case l13 => k_is)
    (case cd13k => k_is)
    (case k13 => k_is)
    (case a14 => k_is)
    (case l14 => k_is)
    (case cd14k => k_is)
    (case k14 => k_is)
    (case a15 => k_is)
    (case l15 => k_is)
    (case cd15k => k_is)
    (case k15 => k_is)
    (case a16 => k_is)
    (case l16 => k_is)
    (case cd16k => k_is)
    (case k16 => k_is)
    (case a17 => k_is)
    (case l17 => k_is)
    (case cd17k => k_is)
    (case k17 => k_is)
    (case a18 => k_is)
    (case l18 => k_is)
    (case cd18k => k_is)
    (case k18 => k_is)
    (case a19 => k_is)
    (case l19 => k_is)
    (case cd19k => k_is)
    (case k19 => k_is)
    (case a20 => k_is)
    (case l20 => k_is)
    (case cd20k => k_is)
    (case k20 => k_is)
    (case a21 => k_is)
    (case l21 => k_is)
    (case cd21k => k_is)
    (case k21 => k_is)
    (case a22 => k_is)
    (case l22 => k_is)
    (case cd22k => k_is)
    (case k22 => k_is)
    (case a23 => k_is)
    (case l23 => k_is)
    (case cd23k => k_is)
    (case k23 => k_is)
    (case a24 => k_is)
    (case l24 => k_is)
    (case cd24k => k_is)
    (case k24 => k_is)
    (case a25 => k_is)
    (case l25 => k_is)
    (case cd25k => k_is)
    (case k25 => k_is)
    (case a26 => k_is)
    (case l26 => k_is)
    (case cd26k => k_is)
    (case k26 => k_is)
    (case a27 => k_is)
    (case l27 => k_is)
    (case cd27k => k_is)
    (case k27 => k_is)
    (case a28 => k_is)
    (case l28 => k_is)
    (case cd28k => k_is)
    (case k28 => k_is)
    (case a29 => k_is)
    (case l29 => k_is)
    (case cd29k => k_is)
    (case k29 => k_is)
    (case a30 => k_is)
    (case l30 => k_is)
    (case cd30k => k_is)
    (case k30 => k_is)
    (case a31 => k_is)
    (case l31 => k_is)
    (case cd31k => k_is)
    (case k31 => k_is)
    (case a32 => k_is)
    (case l32 => k_is)
    (case cd32k => k_is)
    (case k32 => k_is)
    (case a33 => k_is)
    (case l33 => k_is)
    (case cd33k => k_is)
    (case k33 => k_is)
    (case a34 => k_is)
    (case l34 => k_is)
    (case cd34k => k_is)
    (case k34 => k_is)
    (case a35 => k_is)
    (case l35 => k_is)
    (case cd35k => k_is)
    (case k35 => k_is)
    (case a36 => k_is)
    (case l36 => k_is)
    (case cd36k => k_is)
    (case k36 => k_is)
    (case a37 => k_is)
    (case l37 => k_is)
    (case cd37k => k_is)
    (case k37 => k_is)
    (case geNoCue => k_is)
    (case xeNoCue => first | k_exc | k_is)
    (case keNoCue => k_is)
    (case beNoCue => k_is)
    (case teNoCue => k_is)
    (case geTaken => k_is)
    (case xeTaken => first | k_exc | k_is)
    (case keTaken => k_is)
    (case beTaken => k_is)
    (case teTaken => k_is)
    (case geTooMany => k_is)
    (case xeTooMany => first | k_exc | k_is)
    (case keTooMany => k_is)
    (case beTooMany => k_is)
    (case teTooMany => k_is)
    (case geNoLamp => k_is)
    (case xeNoLamp => first | k_exc | k_is)
    (case keNoLamp => k_is)
    (case beNoLamp => k_is)
    (case teNoLamp => k_is)
    (case geNoLevel => k_is)
    (case xeNoLevel => first | k_exc | k_is)
    (case keNoLevel => k_is)
    (case beNoLevel => k_is)
    (case teNoLevel => k_is)
    (case geNoTime => k_is)
    (case xeNoTime => first | k_exc | k_is)
    (case keNoTime => k_is)
    (case beNoTime => k_is)
    (case teNoTime => k_is)
    (case geCueError => k_is)
    (case geNoText => k_is)
    (case uxeNoCue => first | k_is | rfl | decide +kernel)
    (case uxeTaken => first | k_is | rfl | decide +kernel)
    (case uxeTooMany => first | k_is | rfl | decide +kernel)
    (case uxeNoLamp => first | k_is | rfl | decide +kernel)
    (case uxeNoLevel => first | k_is | rfl | decide +kernel)
    (case uxeNoTime => first | k_is | rfl | decide +kernel)
    (case aX => k_is)
    (case iX => k_is)
    (case lX => k_is)
    (case cdXk => k_is)
    (case kX => k_is)
    (case oxb => first | rfl | decide +kernel | k_is)
    (case saX => k_is)
    (case beX => k_is)
    (case teX => k_is)
    (case keX => k_is)
    (case nrX => k_is)
    (case r0eNoText => first | k_is | rfl | decide +kernel)
    (case r1eNoText => first | k_is | rfl | decide +kernel)
    (case r2eNoText => first | k_is | rfl | decide +kernel)
    (case r3eNoText => first | k_is | rfl | decide +kernel)
    (case r4eNoText => first | k_is | rfl | decide +kernel)
    (case rn => first | k_is | rfl | decide +kernel)
    (case rt => first | k_is | rfl | decide +kernel)
    (case u0eNoText => first | k_is | rfl | decide +kernel)
    (case u1eNoText => first | k_is | rfl | decide +kernel)
    (case u2eNoText => first | k_is | rfl | decide +kernel)
    (case u3eNoText => first | k_is | rfl | decide +kernel)
    (case u4eNoText => first | k_is | rfl | decide +kernel)
    (case u5eNoText => first | k_is | rfl | decide +kernel)
    (case u6eNoText => first | k_is | rfl | decide +kernel)
    (case uveNoText => first | k_is | rfl | decide +kernel)
    (case uxX => first | k_is | rfl | decide +kernel)
    (case r5tc => first | k_is | rfl | decide +kernel)
    (case r5rc => first | k_is | rfl | decide +kernel)
    (case r5sc => first | k_is | rfl | decide +kernel)
    (case r5vc => first | k_is | rfl | decide +kernel)
    (case gcCue => k_is)
    (case pcCue => k_is)
    (case hcCue => k_is)
    (case ocCue => k_is)
    (case scCue => k_is)
    (case mcCue => k_is)
    (case kcCue => k_is)
    (case ncCue_0 => k_is)
    (case ncCue_1 => k_is)
    (case ncCue_2 => k_is)
    (case ncCue_3 => k_is)
    (case gcPlay => k_is)
    (case pcPlay => k_is)
    (case hcPlay => k_is)
    (case ocPlay => k_is)
    (case scPlay => k_is)
    (case mcPlay => k_is)
    (case kcPlay => k_is)
    (case ncPlay_0 => k_is)
    (case gcReader => k_is)
    (case pcReader => k_is)
    (case hcReader => k_is)
    (case ocReader => k_is)
    (case scReader => k_is)
    (case mcReader => k_is)
    (case kcReader => k_is)
    (case ncReader_0 => k_is)
    (case ncReader_1 => k_is)
    (case ncReader_2 => k_is)
    (case r5pa => first | k_is | rfl | decide +kernel)
    (case r5pm => first | k_is | rfl | decide +kernel)
    (case r5pk => first | k_is | rfl | decide +kernel)
    (case a38 => k_is)
    (case i38 => k_is)
    (case l38 => k_is)
    (case cd38k => k_is)
    (case k38 => k_is)
    (case a39 => k_is)
    (case i39 => k_is)
    (case l39 => k_is)
    (case cd39k => k_is)
    (case k39 => k_is)
    (case a40 => k_is)
    (case i40 => k_is)
    (case l40 => k_is)
    (case cd40k => k_is)
    (case k40 => k_is)
    (case a41 => k_is)
    (case i41 => k_is)
    (case l41 => k_is)
    (case cd41k => k_is)
    (case k41 => k_is)
    (case dl41 => k_is)
    (case dd41 => rfl)
    (case dw41 => exact .cons ⟨_, rfl⟩ (.cons ⟨_, rfl⟩ (.cons rfl .nil)))
    (case a42 => k_is)
    (case i42 => k_is)
    (case l42 => k_is)
    (case cd42k => k_is)
    (case k42 => k_is)
    (case a43 => k_is)
    (case i43 => k_is)
    (case l43 => k_is)
    (case cd43k => k_is)
    (case k43 => k_is)
    (case a44 => k_is)
    (case i44 => k_is)
    (case l44 => k_is)
    (case cd44k => k_is)
    (case k44 => k_is)
    (case a45 => k_is)
    (case i45 => k_is)
    (case l45 => k_is)
    (case cd45k => k_is)
    (case k45 => k_is)
    (case a46 => k_is)
    (case i46 => k_is)
    (case l46 => k_is)
    (case cd46k => k_is)
    (case k46 => k_is)
    (case a47 => k_is)
    (case i47 => k_is)
    (case l47 => k_is)
    (case cd47k => k_is)
    (case k47 => k_is)
    (case a48 => k_is)
    (case i48 => k_is)
    (case l48 => k_is)
    (case cd48k => k_is)
    (case k48 => k_is)
    (case a49 => k_is)
    (case i49 => k_is)
    (case l49 => k_is)
    (case cd49k => k_is)
    (case k49 => k_is)
    (case a50 => k_is)
    (case i50 => k_is)
    (case l50 => k_is)
    (case cd50k => k_is)
    (case k50 => k_is)
    (case a51 => k_is)
    (case i51 => k_is)
    (case l51 => k_is)
    (case cd51k => k_is)
    (case k51 => k_is)
    (case a52 => k_is)
    (case i52 => k_is)
    (case l52 => k_is)
    (case cd52k => k_is)
    (case k52 => k_is)
    (case a53 => k_is)
    (case i53 => k_is)
    (case l53 => k_is)
    (case cd53k => k_is)
    (case k53 => k_is)
    (case a54 => k_is)
    (case i54 => k_is)
    (case l54 => k_is)
    (case cd54k => k_is)
    (case k54 => k_is)
    (case a55 => k_is)
    (case i55 => k_is)
    (case l55 => k_is)
    (case cd55k => k_is)
    (case k55 => k_is)
    (case a56 => k_is)
    (case i56 => k_is)
    (case l56 => k_is)
    (case cd56k => k_is)
    (case k56 => k_is)
    (case a57 => k_is)
    (case i57 => k_is)
    (case l57 => k_is)
    (case cd57k => k_is)
    (case k57 => k_is)
    (case a58 => k_is)
    (case i58 => k_is)
    (case l58 => k_is)
    (case cd58k => k_is)
    (case k58 => k_is)
    (case a59 => k_is)
    (case i59 => k_is)
    (case l59 => k_is)
    (case cd59k => k_is)
    (case k59 => k_is)
    (case a60 => k_is)
    (case i60 => k_is)
    (case l60 => k_is)
    (case cd60k => k_is)
    (case k60 => k_is)
    (case a61 => k_is)
    (case i61 => k_is)
    (case l61 => k_is)
    (case cd61k => k_is)
    (case k61 => k_is)
    (case q1 => k_is)
    (case q2 => k_is)
    (case q3 => k_is)
    (case q4 => k_is)
    (case q5 => k_is)
    (case q6 => k_is)
    (case q7 => k_is)
    (case q8 => k_is)
    (case qs1 => k_is)
    (case qs2 => k_is)
    (case z1 => k_is)
    (case z2 => k_is)
    (case z3 => k_is)
    (case z4 => k_is)
    (case z5 => k_is)
    (case z6 => k_is)
    (case z7 => k_is)
    (case z8 => k_is)
    (case z9 => k_is)
    (case z10 => k_is)
    (case z11 => k_is)
    (case z12 => k_is)
    (case z13 => k_is)
    (case z14 => k_is)
    (case z15 => k_is)
    (case z16 => k_is)
    (case z17 => k_is)
    (case kn2 => first | rfl | decide +kernel)
    (case tb2 => first | k_is | rfl | decide +kernel)
    (case nT2 => first | k_is | rfl | decide +kernel)
    (case kn8 => first | rfl | decide +kernel)
    (case tb8 => first | k_is | rfl | decide +kernel)
    (case nT8 => first | k_is | rfl | decide +kernel)
