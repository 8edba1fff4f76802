import PyProof.Rows.All
import Wide.All
import OpenK.AllK
import Wide.FinOn
import HandS.ForMost
import HandS.Exc
import HandS.TryMany
import HandS.IsInst
import HandS.Property
import HandS.ClsMeth
import HandS.WideBits
import HandS.TupAny
import HandS.Defaults
import HandS.MakeKw
import HandS.Deep
import HandS.Walk
import HandS.RaiseMore
import KE.GoesEnum
import HandS.MakeKwOnly
import HandS.Style
import HandS.OwnEq
import KE.KCallOwn
import PyProof.InstEq
import KE.KUnpackStar
import HandS.Text
import HandS.TryOnly
import HandS.CallLocal
import HandS.Small
import OpenK.KOps
import HandS.More
import HandS.Evl
import HandS.FStr
import HandS.Star
import PySem.Challenge.RW_forcedsteer_k02_works_made
set_option Elab.async false
set_option linter.all false
set_option maxRecDepth 100000
set_option maxHeartbeats 8000000
namespace Fs
open PySem PySem.Spec PyProof.Rows L2
section
variable {X : Cx}
/-! ### in, not in of a tuple of data -/
def inT (K : PySem.W.Frag) : R2 := fun p q G Z =>
  ∃ dp ds, Dp K G p dp ∧ Dp K G q (.tuple ds) ∧ SeqAt.shaped dp = true ∧ SeqAt.shaped (.tuple ds) = true ∧
    Z (.bl (ds.any fun z => PyData.eqv z dp)) G
theorem op_inT (room : X.A.units + 65 < cLine) : OpR X (compareOp .In) (inT X.K) := by
  intro ps st sg G p q vp vq Z J rp rq ⟨dp, ds, h1, h2, s1, s2, z⟩
  obtain ⟨as, r1⟩ := Dp.reads J dp p vp h1 rp
  obtain ⟨bs, r2⟩ := Dp.reads J (.tuple ds) q vq h2 rq
  exact SeqAt.in_tuple_reads r2 r1 (SeqAt.canLay_of_shaped s2) (SeqAt.canLay_of_shaped s1)
    (room_in_shaped s1 room) ⟨.bl _, G, J, rfl, z⟩
def notInT (K : PySem.W.Frag) : R2 := fun p q G Z =>
  ∃ dp ds, Dp K G p dp ∧ Dp K G q (.tuple ds) ∧ SeqAt.shaped dp = true ∧ SeqAt.shaped (.tuple ds) = true ∧
    Z (.bl (!ds.any fun z => PyData.eqv z dp)) G
theorem op_notInT (room : X.A.units + 65 < cLine) : OpR X (compareOp .NotIn) (notInT X.K) := by
  intro ps st sg G p q vp vq Z J rp rq ⟨dp, ds, h1, h2, s1, s2, z⟩
  obtain ⟨as, r1⟩ := Dp.reads J dp p vp h1 rp
  obtain ⟨bs, r2⟩ := Dp.reads J (.tuple ds) q vq h2 rq
  exact SeqAt.notIn_tuple_reads r2 r1 (SeqAt.canLay_of_shaped s2) (SeqAt.canLay_of_shaped s1)
    (room_in_shaped s1 room) ⟨.bl _, G, J, rfl, z⟩
/-! ### repr of data that stands at an address -/
theorem dp_noDict {K : PySem.W.Frag} {G : Hp} : ∀ (d : PyData) {v : V}, Dp K G v d → d.canLay0 = true → d.hasDict = false :=
  fun d _ _ h => PyData.hasDict_of_canLay d h
def reprR (K : PySem.W.Frag) : List V → Hp → VK → Prop := fun xs G Z =>
  ∃ (a : Addr) (d : PyData), xs = [.ref a] ∧ Dp K G (.ref a) d ∧ d.showable = true ∧ SeqAt.shaped d = true ∧ d.shown.length ≤ sizeLine ∧ Z (.str d.shown) G
theorem call_reprD (room : X.A.units + 65 < cLine) (hg : X.A.guards = some []) : CallR X (.builtin "repr") (reprR X.K) := by
  intro ps st sg G xs us Z J r ⟨a, d, e, h, s1, s2, hz, z⟩
  subst e
  rw [Vals.ref1 r]
  obtain ⟨as, r1⟩ := Dp.reads J d (.ref a) (.ref a) h rfl
  have hd := SeqAt.depth_of_shaped s2
  refine repr_of_reads' r1 s1 (PyData.noDict_hsm (PyData.hasDict_of_canLay d (SeqAt.canLay_of_shaped s2))) hg (by omega) (fun _ _ q => q) (fun h' u tk hk => ?_) hz
  exact ⟨.str _, G, J.kept (t' := tk) hk, ⟨_, rfl⟩, z⟩
end
end Fs

namespace Fs
open PySem PySem.Spec PyProof.Rows L2
/-! ### a def's promise where no repr is under way around it -/
structure FnG (P : Program) (w : World) (K : PySem.W.Frag) (mg : Str → Option Value) (base : Heap) (ex : CXT) (n : Nat) (f : Addr)
    (fd : FuncData) (ps : List Str) (sp : Sp) : Prop where
  len : ∀ vs G Z E, sp vs G Z E → vs.length = ps.length
  run : ∀ (A : Around) (out : List Env) (st : Shared) (G : Hp) (args : Args) (us : List Value) (vs : List V) (Z : VK) (E : XK),
    Room n A → A.guards = some [] → Env0 P w K mg base A out st G → BindsTo st fd args (ps.zip us) → Vals vs us → sp vs G Z E →
      codeAny (model P w) A (.call (.ref f) args) (CR ex out P w G st Z E) st
section
variable {P : Program} {w : World} {K : PySem.W.Frag} {mg : Str → Option Value} {base : Heap} {ex : CXT} {n : Nat} {f : Addr} {fd : FuncData} {ps : List Str} {sp : Sp}
theorem FnG.of (F : FnOk P w K mg base ex n f fd ps sp) : FnG P w K mg base ex n f fd ps sp :=
  ⟨F.len, fun A out st G args us vs Z E hr _ => F.run A out st G args us vs Z E hr⟩
theorem FnG.mkX {x qual : Str} {d : Stmt} {N : List Str} (F : Fun K x qual d f fd) (S : FnScope N ps (defScope d))
    (len : ∀ vs G Z E, sp vs G Z E → vs.length = ps.length)
    (body : ∀ (cdv : Value) (A : Around) (out : List Env) (st : Shared) (G : Hp) (vs : List V) (Z : VK) (E : XK),
      Room n (A.deeper (envOfC qual (defScope d) st.heap.objs.size f cdv)) → A.guards = some [] → sp vs G Z E →
        ∃ t, PSs (cxOf ex P w K mg base N qual (defScope d) f cdv A out st G E) (defBody d) t ∧
          t { nx := fun _ G' => Z .non G', rt := Z } (start N vs) G) :
    FnG P w K mg base ex (n + 1) f fd ps sp := by
  obtain ⟨oc, od, kV, doc, pm, an, cdv, ct, osl, rfl, at_, code⟩ := F.ex
  refine ⟨len, fun A out st G args us vs Z E room gs env bind rel want => ?_⟩
  have older : ∀ b o, base.get? b = some o → st.heap.get? b = some o := fun b o q => (env.bs b o q).1
  have inK := env.mod.kin.keeps older
  refine codeAny_call_function room.depth (inK _ _ at_) rfl S.co S.gen rfl (PySem.W.codeRec_of inK code) (bind _ _ _ _ ?_)
  refine wpAny_newFunctionEnv_cells S.kind ?_ fun e0 eq0 st1 made => ?_
  · rintro ⟨nm, v⟩ mem
    exact (S.par nm (List.of_mem_zip mem).1).imp id fun q => ⟨q, PySem.W.cellsFrom_some _ _ _ (.inl q)⟩
  · subst eq0
    refine ⟨(env.mod.nolimit.keeps older).keeps made.toInCall.keep, codeAny_func ?_⟩
    obtain ⟨t, der, good⟩ := body cdv A out st G vs Z E (room.deeper _) gs want
    have start0 := inv_start (CX := ex) S room.hd env (len _ _ _ _ want) rel made (E := E)
    refine wpAny_mono (der.run [] st1 (start N vs) G _ start0 good) (fun fl st2 fin => ?_) fun _ _ q => q
    cases fl with
    | brk =>
      obtain ⟨_, _, _, no⟩ := fin
      exact no.elim
    | cont =>
      obtain ⟨_, _, _, no⟩ := fin
      exact no.elim
    | next =>
      obtain ⟨sg, G2, J, z⟩ := fin
      exact ⟨.non, G2, J.os, J.bare, J.base, J.hok, rfl, z⟩
    | ret u =>
      obtain ⟨v, sg, G2, J, rv, z⟩ := fin
      exact ⟨v, G2, J.os, J.bare, J.base, J.hok, rv, z⟩
theorem FnG.mk' {x qual : Str} {d : Stmt} {N : List Str} (F : Fun K x qual d f fd) (S : FnScope N ps (defScope d))
    (len : ∀ vs G Z E, sp vs G Z E → vs.length = ps.length)
    (body : ∀ (cdv : Value) (A : Around) (out : List Env) (st : Shared) (G : Hp) (vs : List V) (Z : VK) (E : XK),
      Room n (A.deeper (envOfC qual (defScope d) st.heap.objs.size f cdv)) → A.guards = some [] → sp vs G Z E →
        ∃ t, PSs (cxOf CX0 P w K mg base N qual (defScope d) f cdv A out st G E).nox (defBody d) t ∧
          t { nx := fun _ G' => Z .non G', rt := Z } (start N vs) G) :
    FnG P w K mg base CX0 (n + 1) f fd ps sp :=
  FnG.mkX F S len fun cdv A out st G vs Z E hr gs h => (body cdv A out st G vs Z E hr gs h).imp fun _ q => ⟨q.1.nox, q.2⟩
end
section
variable {X : Cx} {ex : CXT} {n : Nat} {f : Addr} {fd : FuncData} {ps : List Str} {sp : Sp} {dvs : List V} {ds : List Value} {E : XK} {x : Str} {e : Expr} {es : List Expr} {t : TA} {p pos : Pos}
theorem pe_callG (F : FnG X.prog X.w X.K X.mg X.base ex n f fd ps sp) (hr : Room n X.A) (gs : X.A.guards = some []) (hg : Gl X x)
    (hm : X.mg x = some (.ref f)) (hk : PySem.W.keepIn X.K (.ref f) = true) (hb : Binds X.K fd ps ds) (hd : Vals dvs ds) (hx : Passes ex X E)
    (ha : PA X (e :: es) t) (hdb : (x == ("__debug__" : Str)) = false := by decide)
    (he : starEach (e :: es) X.env = (false, eval e X.env) :: starEach es X.env := by rfl)
    (hpl : (backTo pos (starEach es X.env)).any (·.1) = false := by rfl) :
    PE X (.Call (.Name x p) (e :: es) [] pos) (tCall sp dvs E t) := by
  refine ⟨fun pn st sg G Z J h => wpAny_Call_Name_kw (ld_glob J hg hm (PySem.W.callWith_K (h₀ := X.base) J.ok.mod.kin hk ?_ he hpl) hdb)⟩
  refine thn (ha.run pos pn st sg G _ J h) fun us st1 ⟨vs, G1, J1, rel, want⟩ => ⟨J1.kIn, wpAny_call ?_⟩
  have rel2 : Vals (vs ++ dvs) (us ++ ds) := rel.append hd
  have sz : (us ++ ds).length = ps.length := rel2.length.symm.trans (F.len _ _ _ _ want)
  refine codeAny_mono (F.run X.A X.stack st1 G1 ⟨us, []⟩ (us ++ ds) (vs ++ dvs) Z E hr gs J1.env0 (hb st1 us J1.kIn sz) rel2 want) fun r st2 fin => ?_
  cases r with
  | error er => exact hx pn sg G1 st1 er st2 J1 fin
  | ok fl =>
    cases fl with
    | ret u => exact J1.after fin
    | next => exact fin.elim
    | brk => exact fin.elim
    | cont => exact fin.elim
end
/-! ### the end of a law -/
def frozen (K : PySem.W.Frag) (a : Addr) (o : Obj) (xs : List V) : Hp := fun b =>
  if b = a ∧ K.lookup a = none then some (.frz o (.lst xs)) else none
theorem frozen_some {K : PySem.W.Frag} {a b : Addr} {o : Obj} {xs : List V} {u : HO} (h : frozen K a o xs b = some u) : b = a ∧ K.lookup a = none ∧ u = .frz o (.lst xs) := by
  unfold frozen at h
  split at h
  · next c => exact ⟨c.1, c.2, (Option.some.inj h).symm⟩
  · cases h
theorem frozen_at {K : PySem.W.Frag} {a : Addr} {o : Obj} {xs : List V} (h : K.lookup a = none) : frozen K a o xs a = some (.frz o (.lst xs)) := if_pos ⟨rfl, h⟩
theorem law_end {P : Program} {w : World} {K : PySem.W.Frag} {mg mb : Str → Option Value} {n : Nat} {fa a : Addr} {fd : FuncData} {x : Str} {sp : Sp} {st : Shared} {us : List Value} {is : List Int}
    (inK : K.In st.heap) (nm : st.heap.Ns mainGlobals mg) (nb : st.heap.Ns builtinsNs mb) (bo : ∀ y : Str, y ≠ "__name__" → mb y = bootBuiltins y) (nl : st.heap.NoLimit) (ng : st.gens = #[])
    (scr : st.heap.get? a = some { cls := .type "list", data := .seq us.toArray }) (ints0 : IntsAre us is) (small : is.length ≤ sizeLine) (hr : Room n callerA)
    (F : ∀ base : Heap, K.In base → base.Ns mainGlobals mg → FnG P w K mg base CX0 n fa fd [x] sp) (bind : ∀ (s : Shared) (u : Value), BindsTo s fd ⟨[u], []⟩ [(x, u)])
    (want : ∀ G : Hp, SqL K G a (is.map V.int) → sp [.ref a] G (fun v _ => v = .bl true) fun _ _ _ => False) :
    codeAny (model P w) callerA (.call (.ref fa) ⟨[.ref a], []⟩) (fun r s' => r = .ok (.ret (.bool true)) ∧ OldK st.heap s'.heap ∧ s'.os = st.os ∧ AllBare s'.gens) st := by
  have rel := vals_ints ints0
  have sz := ints0.length
  let ob : Obj := { cls := .type "list", data := .seq us.toArray }
  let G : Hp := frozen K a ob (is.map V.int)
  have seq : SqL K G a (is.map V.int) := by
    cases c : K.lookup a with
    | none => exact .inl (.inr ⟨ob, frozen_at c⟩)
    | some o =>
      have same := inK a o c
      rw [scr] at same
      cases same
      exact .inr ⟨_, us.toArray, _, c, rfl, rfl, rfl, by rw [List.size_toArray, sz]; exact small, by simpa using rel⟩
  have held : HOk P w G st.heap := fun b u h => by
    obtain ⟨rfl, _, rfl⟩ := frozen_some h
    exact ⟨scr, by rw [List.length_map]; exact small, us, _, rel, scr⟩
  -- what is no script is no tracked thing
  have other : ∀ {b : Addr} {o : Obj} {es : Array DictEntry} {ep : Nat}, st.heap.get? b = some o → o.data = .dict es ep → G b = none := fun {b o es ep} h d => by
    cases c : G b with
    | none => rfl
    | some u =>
      obtain ⟨rfl, _, _⟩ := frozen_some c
      rw [scr] at h
      cases h
      exact absurd (show Data.seq us.toArray _ = Data.dict es ep from d) nofun
  have nss : ∀ {b : Addr} {m : Str → Option Value}, st.heap.Ns b m → (hidT st.heap G).Ns b m := fun {b m} ⟨o, es, ep, h, d, r⟩ => ⟨o, es, ep, hidT_get h (other h d), d, r⟩
  have kin : K.In (hidT st.heap G) := fun b o h => hidT_get (inK b o h) (by
    cases c : G b with
    | none => rfl
    | some u =>
      obtain ⟨rfl, no, _⟩ := frozen_some c
      rw [no] at h
      cases h)
  have md : Mod K mg (hidT st.heap G) := ⟨kin, nss nm, ⟨mb, nss nb, bo⟩, nl.elim fun mc h => ⟨mc, nss h.1, h.2⟩⟩
  have env : Env0 P w K mg (hidT st.heap G) callerA [] st G :=
    ⟨rfl, md, fun b o h => of_hidT h, Nat.le_of_eq (hidT_size _ _), trivial, fun b h => (List.not_mem_nil h).elim, held, .of_eq ng⟩
  refine codeAny_mono ((F _ kin (nss nm)).run callerA [] st G ⟨[.ref a], []⟩ [.ref a] [.ref a] _ _ hr rfl env (bind st _) (.cons rfl .nil) (want G seq)) fun r s' fin => ?_
  cases r with
  | error er => exact fin.elim
  | ok fl =>
    cases fl with
    | next => exact fin.elim
    | brk => exact fin.elim
    | cont => exact fin.elim
    | ret u =>
      obtain ⟨v, G2, os, bare, un, held2, rv, yes⟩ := fin
      obtain rfl : v = V.bl true := yes
      obtain rfl : u = Value.bool true := rv
      refine ⟨rfl, OldK.of_keep fun b o h => ?_, os, bare⟩
      cases c : G b with
      | none => exact un.keep b o h c (fun z => List.not_mem_nil z) List.not_mem_nil
      | some q =>
        obtain ⟨rfl, _, rfl⟩ := frozen_some c
        have now := (held2 b _ (un.frzs b ob _ c)).1
        rw [scr] at h
        cases h
        exact now
theorem walk_end {l : PySem.W.OpenLaw} {n m : Nat} {q : Program} {loose : List Str} {XP : (Str → Option Value) → Heap → Prop} {YP : World → Heap → Prop} {d : DefRec} {K : Params → PySem.W.Frag} {sp : PySem.W.Frag → Sp} {x : Str}
    (hm : l.most = some m) (hm2 : m ≤ sizeLine) (hdf : d.params.defaults = []) (hr : Room n callerA)
    (hY : ∀ (w : World) (h : Heap), YP w h → (K w.params).In h)
    (F : ∀ (w : World) (mg : Str → Option Value) (fa : Addr) (h : Heap), (K w.params).In h → h.Ns mainGlobals mg → mg d.name = some (.ref fa) →
      ∃ fd : FuncData, (∀ (s : Shared) (u : Value), BindsTo s fd ⟨[u], []⟩ [(x, u)]) ∧
        ∀ base : Heap, (K w.params).In base → base.Ns mainGlobals mg → FnG l.prog w (K w.params) mg base CX0 n fa fd [x] (sp (K w.params)))
    (want : ∀ (K : PySem.W.Frag) (G : Hp) (a : Addr) (is : List Int), is.length ≤ m → SqL K G a (is.map V.int) → sp K [.ref a] G (fun v _ => v = .bl true) fun _ _ _ => False) :
    PySem.W.WalkO q loose XP YP l.row.toRowW d [] (fun f vs => PySem.call f vs) := by
  refine Att.attach_call hm hdf fun w s0 st mg mb fa o pm cd doc a us is gr y _ _ _ hmg scr ints0 few ng => ?_
  have inK := hY w _ y
  obtain ⟨fd, bind, ok⟩ := F w mg fa _ inK gr.T.g hmg
  exact law_end inK gr.T.g gr.T.b gr.T.builtins gr.T.nolimit ng scr ints0 (Nat.le_trans few hm2) hr ok bind fun G h => want _ G a is few h
end Fs

namespace Fs
open PySem PySem.Spec PyProof.Rows L2
/-! ### enumerate of a tuple -/
def IteT (K : PySem.W.Frag) (t : Addr) : It where
  go := fun i G => ∃ xs y, SqT K G t xs ∧ xs[i]? = some y
  yld := fun i G v G' => ∃ r y, v = .ref r ∧ G r = none ∧ G' = upd G r (.tup [.int (i : Nat), y]) ∧ ∀ xs, SqT K G t xs → xs[i]? = some y
  stop := fun i G => ∃ xs, SqT K G t xs ∧ xs.length ≤ i
theorem turn_enumT {P : Program} {w : World} {K : PySem.W.Frag} {es : List Expr} {n : Nat} {tp : Pos} (t e j : Addr) :
    Turn P w K (.Tuple es n tp) (IteT K t) [e, j] e (fun i h => (∃ old, IsEnum h e j (i : Nat) old) ∧ h.IsTupleIter j t i ∧ e ≠ j) where
  mem := List.mem_cons_self
  obj := fun i h tn b hb => by
    obtain ⟨⟨old, he⟩, ⟨o, ho, hc, hd⟩, _⟩ := tn
    rcases List.mem_cons.mp hb with rfl | hb
    · exact ⟨_, he, nofun⟩
    · obtain rfl := List.mem_singleton.mp hb
      exact ⟨o, ho, fun v q => by rw [hd] at q; cases q⟩
  keep := fun i h h' tn k => ⟨tn.1.imp fun old he => k e (by simp) _ he, tn.2.1.at fun o q => k j (by simp) o q, tn.2.2⟩
  item := by
    intro X eP ew eK calm i pn st sg G E J fp tn go
    subst eP ew eK
    obtain ⟨⟨old, he⟩, hj, ne⟩ := tn
    obtain ⟨xs, y, seq, hy⟩ := go
    obtain ⟨its, rel, tup, _⟩ := J.tuple seq
    obtain ⟨u, hu, ru⟩ := rel.get hy
    have lt_e : e < st.heap.objs.size := Heap.lt_size he
    have lt_j : j < st.heap.objs.size := let ⟨_, q, _⟩ := hj; Heap.lt_size q
    obtain ⟨ot, hot, hct, nt, hdt⟩ := id tup
    obtain ⟨oj, hoj, hcj, hdj⟩ := id hj
    have et : e ≠ t := fun z => by
      have he' : st.heap.get? t = some _ := z ▸ he
      rw [hot] at he'
      cases he'
      exact absurd (show Value.type "enumerate" = Value.type "tuple" from hct) (by decide)
    have jt : t ≠ j := fun z => by
      rw [z, hoj] at hot
      cases hot
      rw [hcj] at hct
      exact absurd hct (by decide)
    have D := Draws.tuple (prog := X.prog) (w := X.w) (A := X.A.in1) (J.ok.hd calm) j t jt its.toArray
    have small : i < its.toArray.size := by
      have q := (List.getElem?_eq_some_iff.mp hu).1
      simpa using q
    refine wpAny_pyNext_enum_itemD D he ⟨hj, tup⟩ small ne (by simp [ne, et]) fun z h1 tk hz out more hT sz kp => ?_
    have zu : z = u := by
      have q : its.toArray[i]? = some z := hz
      have q2 : its.toArray[i]? = some u := by simpa using hu
      rw [q] at q2
      exact Option.some.inj q2
    subst zu
    refine ⟨_, rfl, wpAny_letOwnedTupleGo_enum (s := { st with heap := h1, toks := tk + 1 }) out fun h2 he2 sb => ?_⟩
    have at2 : h2.get? st.heap.objs.size = some { cls := .type "tuple", data := .seq #[.int i tk, z] } := (sb.2 _ (Nat.ne_of_gt lt_e)).trans hT
    have new : ObjOk X.prog X.w (upd G st.heap.objs.size (.tup [.int (i : Nat), y])) h2 st.heap.objs.size (.tup [.int (i : Nat), y]) :=
      ⟨show 2 ≤ sizeLine by decide, [.int i tk, z], .cons ⟨_, rfl⟩ (.cons ru .nil), ⟨_, at2, rfl, _, rfl⟩⟩
    have J2 : Inv X pn sg (upd G st.heap.objs.size (.tup [.int (i : Nat), y])) { st with heap := h2, toks := tk + 1 } :=
      J.turnedNew (ch := [e, j]) (fun b ob hb q => by
        have b1 : b ≠ e := fun c => hb (by simp [c])
        have b2 : b ≠ j := fun c => hb (by simp [c])
        exact (sb.2 b b1).trans (kp b ob b1 b2 q)) fp (Nat.le_refl _) new
    refine ⟨.ref st.heap.objs.size, _, J2, rfl, ⟨_, y, rfl, J.hok.fresh (Nat.le_refl _), rfl, fun ys hs => by rw [J.tuple_inj hs seq]; exact hy⟩, ⟨⟨z, ?_⟩, more.1.at fun o q => (sb.2 j (Ne.symm ne)).trans q, ne⟩, fun b hb => ?_⟩
    · have up : ((i + 1 : Nat) : Int) = (i : Int) + 1 := by omega
      rw [up]
      exact he2
    · have lt_b : b < st.heap.objs.size := by
        rcases List.mem_cons.mp hb with rfl | hb
        · exact lt_e
        · rw [List.mem_singleton.mp hb]
          exact lt_j
      rw [upd_ne (Nat.ne_of_lt lt_b)]
      exact (fp b hb).1
  done := by
    intro X eP ew eK calm i pn st sg G E J fp tn stop
    subst eP ew eK
    obtain ⟨⟨old, he⟩, hj, ne⟩ := tn
    obtain ⟨xs, seq, le⟩ := stop
    obtain ⟨its, rel, tup, _⟩ := J.tuple seq
    obtain ⟨ot, hot, hct, nt, hdt⟩ := id tup
    obtain ⟨oj, hoj, hcj, hdj⟩ := id hj
    have jt : t ≠ j := fun z => by
      rw [z, hoj] at hot
      cases hot
      rw [hcj] at hct
      exact absurd hct (by decide)
    obtain ⟨f0, f1, f2, f3, f4, f5⟩ := fp j (by simp)
    have len := rel.length
    have fin : its.toArray[i]? = none := by
      rw [List.getElem?_toArray]
      exact List.getElem?_eq_none_iff.mpr (by omega)
    unfold pyNext
    refine wpAny_bind (wpAny_attempt (wpAny_callSpecial?_slot (name := Str.ofString "__next__") ⟨_, he, rfl⟩ F.slot_enumerate_next
      (wpAny_call_entry F.slot_enumerate_next ⟨_, he, rfl⟩ F.entry_enumerate_next ?_ (F.args_enumerate_next_1 _))))
    show wpAny _ _ (field (.ref e) 2 >>= _) _ _ _
    refine wpAny_bind (wpAny_field he rfl (x := .ref j) rfl ?_)
    refine wpAny_bind (wpAny_nextOf_tuple_end (J.ok.hd calm) hj tup fin fun h1 x eb hx => ?_)
    obtain ⟨o, ho, hc⟩ := hx
    refine wpAny_bind (wpAny_isInstance (T := "StopIteration") (b := true) ⟨o, ho, hc⟩ isSubtype_stop ?_)
    exact wpAny_pure ⟨rfl, J.turned (t' := st.toks) (fun b ob hb q => eb b ob hb q) f0 f1 f3 f4 f5⟩
  self := fun A i st Q E tn h => tn.1.elim fun _ he => wpAny_pyIter_enum he h
def tupIter (t : Addr) : Obj := { cls := .type "tuple_iterator", data := .fields #[.ref t, .int 0 0] }
def enumOf (j : Addr) : Obj := { cls := .type "enumerate", data := .fields #[.none, .bool false, .ref j, rawInt 0, .none, .none] }
theorem meets_enum_tuple (t : Addr) (its : Array Value) :
    Meets (Builtin.«enumerate.__new__» ⟨[.type "enumerate", .ref t], []⟩) (fun _ R st => st.heap.IsTuple t its ∧
      R (.ok (.ret (.ref (st.heap.push (tupIter t)).objs.size))) { st with heap := (st.heap.push (tupIter t)).push (enumOf st.heap.objs.size) }) :=
  .of_wp fun prog w A R st ⟨ht, h⟩ => by
    obtain ⟨hp, g, d, tk, os⟩ := st
    have sub := sub_enumerate
    have go : ∀ {A' : Around} {E : Value → Shared → Prop} {Q : Value → Shared → Prop},
        Q (.ref hp.objs.size) ⟨hp.push (tupIter t), g, d, tk, os⟩ →
          wpAny (model prog w) A' (pyIter (.ref t)) Q E ⟨hp, g, d, tk, os⟩ := fun q => wpAny_pyIter_tuple ht q
    wp_walk using go
    refine wpAny_stack_any fun fr => wpAny_pure ?_
    split
    · rename_i c _ _ _ _ _
      cases (c == Value.type "enumerate") <;> (wp_walk using go; exact ⟨_, rfl, h⟩)
    · wp_walk using go
      exact ⟨_, rfl, h⟩
section
variable {X : Cx}
def iEnumT (K : PySem.W.Frag) (ta : TA) : TI := fun sg G R => ta sg G fun vs G1 => ∃ a xs, vs = [.ref a] ∧ SqT K G1 a xs ∧ R (IteT K a) G1
theorem pi_enumT {e : Expr} {ta : TA} {p pos tp : Pos} {es : List Expr} {n : Nat} (hg : Gl X "enumerate") (hm : X.mg "enumerate" = none) (ha : PA X [e] ta)
    (hs : starEach [e] X.env = [(false, eval e X.env)] := by rfl) :
    PI X (.Tuple es n tp) (.Call (.Name "enumerate" p) [e] [] pos) (iEnumT X.K ta) := by
  refine ⟨fun pn st sg G R J h => Call_ (ld_blt J hg hm boot_enumerate (PyProof.Rows.callWith_type1 (thn (ha.run pos pn st sg G _ J h) ?_) hs rfl))⟩
  rintro us st1 ⟨vs, G1, J1, rel, a, xs, rfl, seq, more⟩
  obtain ⟨u, rfl⟩ : ∃ u, us = [u] := by
    cases rel with
    | cons r rr =>
      cases rr
      exact ⟨_, rfl⟩
  obtain rfl : u = Value.ref a := by
    cases rel with
    | cons r rr => exact r
  obtain ⟨its, rv, tup, _⟩ := J1.tuple seq
  refine callType_new F.called_enumerate (by decide) (F.typeCall_enumerate_1 _) (F.newCall_enumerate_1 _) (fun obj => F.args_object_init_2 obj _) F.entry_enumerate_new
    (meets_enum_tuple a its.toArray) ⟨tup, ?_⟩
  let it : Obj := tupIter a
  have sz : (st1.heap.push it).objs.size = st1.heap.objs.size + 1 := Heap.size_push ..
  let en : Obj := enumOf st1.heap.objs.size
  show _ ∧ wpAny _ _ (pyIter (.ref (st1.heap.push it).objs.size)) _ _ { st1 with heap := (st1.heap.push it).push en }
  rw [sz]
  have he : IsEnum ((st1.heap.push it).push en) (st1.heap.objs.size + 1) st1.heap.objs.size 0 .none := by
    have q := Heap.get?_push_size (st1.heap.push it) (o := en) rfl
    rw [sz] at q
    exact q
  refine ⟨⟨_, he, rfl⟩, wpAny_pyIter_enum he ?_⟩
  have J2 : Inv X pn sg G1 { st1 with heap := (st1.heap.push it).push en } := J1.kept (t' := st1.toks) fun b o q => Heap.get?_push_of_some _ (Heap.get?_push_of_some _ q)
  refine ⟨st1.heap.objs.size + 1, [st1.heap.objs.size + 1, st1.heap.objs.size], _, _, G1, rfl, J2, turn_enumT a (st1.heap.objs.size + 1) st1.heap.objs.size,
    ⟨⟨.none, he⟩, ⟨_, Heap.get?_push_of_some _ (Heap.get?_push_size _ rfl), rfl, rfl⟩, Nat.succ_ne_self _⟩, fun b hb => ?_, more⟩
  have le : st1.heap.objs.size ≤ b := by
    rcases List.mem_cons.mp hb with rfl | hb
    · exact Nat.le_succ _
    · rw [List.mem_singleton.mp hb]
      exact Nat.le_refl _
  exact J1.fpOk le (J1.hok.fresh le)
end
theorem walk_enumT {K : PySem.W.Frag} {t : Addr} {xs : List V} :
    Walk (IteT K t) xs.length (fun G => SqT K G t xs) (YPair (fun i => some (.int (i : Nat))) (fun i => xs[i]?)) :=
  ⟨fun i _ lt q => ⟨xs, xs[i], q, by simp [lt]⟩, fun _ q => ⟨xs, q, Nat.le_refl _⟩,
    fun i G x G' lt q ⟨r, y, e1, e2, e3, e4⟩ => ⟨r, _, y, e1, e2, e3, rfl, e4 xs q⟩⟩
end Fs

namespace Fs
open PySem PySem.Spec PyProof.Rows L2
/-! ### o.m(k = v) -/
def tMethKw (C : Addr) (m : Str) (n : Nat) (sp : Sp) (gV : List V → List V → List V) (E : XK) (ta : TE) (tk : TA) : TE := fun sg G Z =>
  ta sg G fun y G1 => ∃ a dx fs, y = .ref a ∧ G1 a = some (.ins C dx fs) ∧ fs.lookup m = none ∧
    tk sg G1 fun zs G2 => zs.length = n ∧ sp (gV [.ref a] zs) G2 Z E
section
variable {X : Cx} {ex : CXT} {n : Nat} {f C : Addr} {fd : FuncData} {ps ks : List Str} {sp : Sp} {E : XK} {m : Str} {o : Expr} {apos pos : Pos} {kws : List Keyword} {ta : TE} {tk : TA} {g : List Value → List Value → List Value} {gV : List V → List V → List V}
theorem pe_methKw {pl : Sem Bool} (ho : PE X o ta) (c : Cls X.K C) (hm : Meth X.K C m f) (F : FnOk X.prog X.w X.K X.mg X.base ex n f fd ps sp) (hr : Room n X.A) (hb : KBn X.K fd ps 1 ks g gV) (hx : Passes ex X E) (hkw : PK X kws tk)
    (hall : (backToKw pos (keywordEach kws X.env)).all (·.1.isSome) = true := by rfl) (hks : (backToKw pos (keywordEach kws X.env)).filterMap (·.1) = ks := by rfl)
    (hpl : ((backTo pos (starEach [] X.env)).any (·.1) || (backToKw pos (keywordEach kws X.env)).any (·.1.isNone)) = false := by rfl)
    (ht : eval (.Call (.Attribute o m apos) [] kws pos) X.env = (do
      let obj ← eval o X.env
      standAt apos.atName
      let (fn, one) ← holding [obj] (getMethod obj m pl)
      callWith pos fn one (backTo pos (starEach [] X.env)) (backToKw pos (keywordEach kws X.env))) := by rfl) :
    PE X (.Call (.Attribute o m apos) [] kws pos) (tMethKw C m ks.length sp gV E ta tk) := by
  refine ⟨fun pn st sg G Z J h => PySem.W.methodCall_KW (pl := pl) (thn (ho.run pn st sg G _ J h) ?_) ht⟩
  rintro u st1 ⟨y, G1, J1, ry, a, dx, fs, rfl, ha, none_, h1⟩
  obtain rfl : u = Value.ref a := ry
  refine getmeth_ok J1 ha c hm none_ (PySem.W.callWith_KW0 (first := [.ref a]) (h₀ := X.base) J1.ok.mod.kin hm.kp hall ?_ hpl)
  refine thn (hkw.run pos pn st1 sg G1 _ J1 h1) fun ws st2 ⟨zs, G2, J2, rz, len, h2⟩ => ⟨J2.kIn, ?_⟩
  rw [hks]
  exact run_fnN (us := [.ref a]) (vs := [.ref a]) F hr hb hx J2 (.cons rfl .nil) rz rfl len h2
end
end Fs

namespace Fs
open PySem PySem.Spec PyProof.Rows L2
/-! ### a tuple turned round: t[::-1] -/
theorem pick_back (items : Array Value) : ((List.range items.size).filterMap fun (m : Nat) => items[(((items.size : Int) - 1) + (m : Int) * -1).toNat]?).toArray = items.toList.reverse.toArray := by
  have each : (fun (m : Nat) => items[(((items.size : Int) - 1) + (m : Int) * -1).toNat]?) = (fun k => items[k]?) ∘ fun m => items.size - 1 - m := by
    funext m
    have at_ : (((items.size : Int) - 1) + (m : Int) * -1).toNat = items.size - 1 - m := by omega
    rw [at_]
    rfl
  rw [each, ← List.filterMap_map, PySem.W.krv_range, List.filterMap_reverse, PySem.W.krv_all]
section
variable {prog : Program} {w : World} {A : Around} {E : Value → Shared → Prop} {st : Shared}
theorem applied_back {sl : Addr} {n : Nat} {u : Tok} {Z : Int × Int × Nat → Shared → Prop} (hs : st.heap.IsSliceOf sl .none .none (.int (-1) u))
    (h : Z ((n : Int) - 1, -1, n) st) : wpAny (model prog w) A (Builtin.Slice.sliceApplied (.ref sl) (pure (n : Int))) Z E st := by
  obtain ⟨ob, hob, cob, dob⟩ := id hs
  unfold Builtin.Slice.sliceApplied Builtin.Slice.sliceFields
  refine wpAny_bind (wpAny_bind (wpAny_field hob dob (x := .none) rfl (wpAny_bind (wpAny_field hob dob (x := .none) rfl (wpAny_bind (wpAny_field hob dob (x := .int (-1) u) rfl (wpAny_pure ?_)))))))
  refine wpAny_bind (slicePart_int ?_)
  show wpAny _ _ (if ((-1 : Int) == 0) = true then _ else _) _ _ st
  rw [if_neg (by decide)]
  refine wpAny_bind (slicePart_none (wpAny_bind (slicePart_none (wpAny_bind (wpAny_pure ?_)))))
  have adj : Builtin.Slice.sliceAdjust none none (-1) (n : Int) = ((n : Int) - 1, -1) := rfl
  have pls : Builtin.Slice.slicePlaces ((n : Int) - 1) (-1) (-1) = n := by
    unfold Builtin.Slice.slicePlaces
    have h1 : ¬ ((-1 : Int) > 0) := by decide
    simp only [h1, if_false, show (- -1 : Int) = 1 by decide, Int.ediv_one]
    split <;> omega
  show wpAny _ _ (match Builtin.Slice.sliceAdjust none none (-1) (n : Int) with | (lo, hi) => pure (lo, (-1 : Int), Builtin.Slice.slicePlaces lo hi (-1))) _ _ st
  rw [adj]
  show wpAny _ _ (pure ((n : Int) - 1, (-1 : Int), Builtin.Slice.slicePlaces ((n : Int) - 1) (-1) (-1))) _ _ st
  rw [pls]
  exact wpAny_pure h
theorem item_back {t sl : Addr} {items : Array Value} {u : Tok} {Z : Value → Shared → Prop} (ht : IsTup st.heap t items) (hs : st.heap.IsSliceOf sl .none .none (.int (-1) u))
    (h : Z (.ref st.heap.objs.size) { st with heap := st.heap.push { cls := .type "tuple", data := .seq items.toList.reverse.toArray } })
    (few : items.size ≤ sizeLine) : wpAny (model prog w) A (getItem (.ref t) (.ref sl)) Z E st := by
  have fits : sizeOk (.seq items.toList.reverse.toArray) := by
    show items.toList.reverse.toArray.size ≤ sizeLine
    rw [List.size_toArray, List.length_reverse, Array.length_toList]
    exact few
  obtain ⟨ob, hob, cob, dob⟩ := id hs
  have ty : st.TypeIs (.ref sl) "slice" := ⟨ob, hob, cob⟩
  unfold getItem
  try with_reducible refine wpAny_holding ?_
  first | refine wpAny_bind (wpAny_pure ?_) | skip
  refine wpAny_bind (wpAny_sequenceKey ht.typeIs (by decide) (wpAny_bind ?_))
  refine wpAny_callSpecial?_slot (name := Str.ofString "__getitem__") ht.typeIs PyProof.Rows.slot_tuple_getitem (wpAny_call_entry PyProof.Rows.slot_tuple_getitem ht.typeIs entry_tuple_getitem ?_ (args_tuple_getitem _ _))
  show wpAny _ _ (Builtin.Tuple.tupleItemsOf (.ref t) >>= _) _ _ st
  refine wpAny_bind (tupleItemsOf_ ht (wpAny_bind (wpAny_typeOf ty ?_)))
  rw [if_pos (by decide)]
  refine wpAny_bind (applied_back hs ?_)
  have no : ¬ ((((items.size : Int) - 1) == 0 && (-1 : Int) == 1 && items.size == items.size) = true) := by
    have q : ((-1 : Int) == 1) = false := by decide
    rw [q, Bool.and_false, Bool.false_and]
    exact Bool.false_ne_true
  show wpAny _ _ (if (((items.size : Int) - 1) == 0 && (-1 : Int) == 1 && items.size == items.size) = true then _ else _) _ _ st
  rw [if_neg no, pick_back]
  first
    | exact wpAny_bind (m := Builtin.Tuple.tupleExact _) (wpAny_newObj_type (wpAny_pure ⟨_, rfl, wpAny_pure h⟩) fits)
    | exact wpAny_bind (m := Builtin.Tuple.tupleExact _) (wpAny_newObj_type (wpAny_bind (wpAny_pure (wpAny_pure ⟨_, rfl, wpAny_pure h⟩))) fits)
    | exact wpAny_bind (wpAny_bind (m := Builtin.Tuple.tupleExact _) (wpAny_newObj_type (wpAny_pure (wpAny_pure ⟨_, rfl, wpAny_pure h⟩)) fits))
    | exact wpAny_bind (wpAny_bind (m := Builtin.Tuple.tupleExact _) (wpAny_newObj_type (wpAny_pure ⟨_, rfl, wpAny_pure h⟩) fits))
end
def tBack (K : PySem.W.Frag) (te : TE) : TE := fun sg G Z => te sg G fun v G1 => ∃ a xs, v = .ref a ∧ SqT K G1 a xs ∧ ∀ p, G1 p = none → Z (.ref p) (upd G1 p (.tup xs.reverse))
theorem pe_back {X : Cx} {e : Expr} {te : TE} {k : Nat} {p1 p2 p3 pos : Pos} (he : PE X e te) :
    PE X (.Subscript e (.Slice none none (some (.UnaryOp .USub (.Constant (.int 1) k p1) p2)) p3) pos) (tBack X.K te) := by
  refine ⟨fun pn st sg G Z J h => Subscript_ (thn (he.run pn st sg G _ J h) ?_)⟩
  rintro _ st1 ⟨_, G1, J1, rel, a, xs, rfl, seq, z⟩
  cases rel
  have minus : PO X (some (.UnaryOp .USub (.Constant (.int 1) k p1) p2)) (tPart (tUn (rU fun i => .int (-i)) (tC (.int 1)))) := po_some (pe_un un_neg pe_int)
  refine wpAny_Slice (thn (po_none.run pn st1 sg G1 (fun o G2 => o = none ∧ G1 = G2) J1 ⟨rfl, rfl⟩) ?_)
  rintro vl st2 ⟨_, _, J2, pl, rfl, rfl⟩
  refine thn (po_none.run pn st2 sg _ (fun o G3 => o = none ∧ G1 = G3) J2 ⟨rfl, rfl⟩) ?_
  rintro vu st3 ⟨_, _, J3, pu, rfl, rfl⟩
  refine thn (minus.run pn st3 sg _ (fun o G4 => o = some (-1) ∧ G1 = G4) J3 ⟨1, rfl, -1, rfl, rfl, rfl⟩) ?_
  rintro vs st4 ⟨_, _, J4, pm, rfl, rfl⟩
  cases pl
  cases pu
  cases pm
  rename_i u
  let ob : Obj := { cls := .type "slice", data := .fields #[.none, .none, .int (-1) u] }
  have J5 : Inv X pn sg G1 { st4 with heap := st4.heap.push ob } := J4.kept (t' := st4.toks) fun b o q => Heap.get?_push_of_some _ q
  obtain ⟨its, rel, tup, few⟩ := J5.tuple seq
  have len := rel.length
  show wpAny (model X.prog X.w) X.A (subscriptTail e (.Slice none none (some (.UnaryOp .USub (.Constant (.int 1) k p1) p2)) p3) (.ref a) (.ref st4.heap.objs.size)) (EP X pn sg Z) X.xe { st4 with heap := st4.heap.push ob }
  refine tail_any (ops := [.ref a, .ref st4.heap.objs.size]) tup.typeIs PyProof.Rows.slot_tuple_getitem.lookup ?_ (by with_unfolding_all rfl)
  refine item_back tup (Heap.IsSliceOf.new _ .none .none (.int (-1) u)) ?_ (by rw [List.size_toArray]; omega)
  refine ⟨.ref _, _, J5.laid (t' := st4.toks) (o := .tup xs.reverse) (fun b o q => Heap.get?_push_of_some _ q) (Nat.le_refl _) ?_, rfl, z _ (J5.hok.fresh (Nat.le_refl _))⟩
  exact ⟨by rw [List.length_reverse]; exact few, _, rel.reverse, ⟨_, Heap.get?_push_size _ rfl, rfl, 0, rfl⟩⟩
end Fs

namespace Fs
open PySem PySem.Spec PyProof.Rows L2
/-! ### data that can be compared and shown -/
structure Fine (d : PyData) (deep wide : Nat) : Prop where
  lay : d.canLay0 = true
  sho : d.showable = true
  int13 : d.intsShort 13 = true
  dp : d.depth ≤ deep
  wt : d.weight ≤ wide
structure FineAll (ds : List PyData) (deep wide : Nat) : Prop where
  lay : PyData.canLayAll0 ds = true
  sho : PyData.showableAll ds = true
  int13 : PyData.intsShortAll 13 ds = true
  dp : PyData.depthAll ds ≤ deep
  wt : PyData.weightAll ds ≤ wide
theorem FineAll.nil {a : Nat} : FineAll [] a 0 := ⟨rfl, rfl, rfl, Nat.zero_le _, Nat.le_refl _⟩
theorem FineAll.cons {d : PyData} {ds : List PyData} {a u v : Nat} (h : Fine d a u) (t : FineAll ds a v) : FineAll (d :: ds) a (u + 1 + v) := by
  refine ⟨?_, ?_, ?_, ?_, ?_⟩
  · simp only [PyData.canLayAll0, h.lay, t.lay, Bool.and_self]
  · simp only [PyData.showableAll, h.sho, t.sho, Bool.and_self]
  · simp only [PyData.intsShortAll, h.int13, t.int13, Bool.and_self]
  · have h1 := h.dp
    have h2 := t.dp
    simp only [PyData.depthAll]
    omega
  · have h1 := h.wt
    have h2 := t.wt
    simp only [PyData.weightAll]
    omega
theorem FineAll.of {ds : List PyData} {a u n : Nat} (h : ∀ d ∈ ds, Fine d a u) (few : ds.length ≤ n) : FineAll ds a ((u + 1) * n) := by
  have all : FineAll ds a ((u + 1) * ds.length) := by
    clear few
    induction ds with
    | nil => exact FineAll.nil
    | cons d r ih =>
      have q := FineAll.cons (h d List.mem_cons_self) (ih fun x hx => h x (List.mem_cons_of_mem _ hx))
      have e : (u + 1) * (d :: r).length = u + 1 + (u + 1) * r.length := by
        rw [List.length_cons, Nat.mul_succ, Nat.add_comm]
      rw [e]
      exact q
  exact ⟨all.lay, all.sho, all.int13, all.dp, Nat.le_trans all.wt (Nat.mul_le_mul_left _ few)⟩
theorem FineAll.list {ds : List PyData} {a u : Nat} (h : FineAll ds a u) : Fine (.list ds) (a + 1) u := by
  refine ⟨h.lay, h.sho, h.int13, ?_, h.wt⟩
  have := h.dp
  simp only [PyData.depth]
  omega
theorem FineAll.tup {ds : List PyData} {a u : Nat} (h : FineAll ds a u) : Fine (.tuple ds) (a + 1) u := by
  refine ⟨h.lay, h.sho, h.int13, ?_, h.wt⟩
  have := h.dp
  simp only [PyData.depth]
  omega
theorem Fine.mono {d : PyData} {a u a' u' : Nat} (h : Fine d a u) (ha : a ≤ a') (hu : u ≤ u') : Fine d a' u' := ⟨h.lay, h.sho, h.int13, Nat.le_trans h.dp ha, Nat.le_trans h.wt hu⟩
theorem Fine.str {z : Str} {n : Nat} (h : PyData.canLay0 (.str z) = true) (few : z.length ≤ n) : Fine (.str z) 0 n := ⟨h, rfl, rfl, Nat.le_refl _, few⟩
theorem Fine.bool (b : Bool) : Fine (.bool b) 0 0 := ⟨rfl, rfl, rfl, Nat.le_refl _, Nat.le_refl _⟩
theorem Fine.shaped {d : PyData} {a u : Nat} (h : Fine d a u) (ha : a ≤ 64) : SeqAt.shaped d = true := by
  show (d.canLay0 && decide (d.depth ≤ 64)) = true
  rw [h.lay, decide_eq_true (Nat.le_trans h.dp ha)]
  rfl
theorem Fine.fits {d : PyData} {a u : Nat} (h : Fine d a u) (ha : a ≤ 64) (hu : u ≤ 1000000) : d.shown.length ≤ sizeLine := by
  refine PyData.shown_fits_of_layable0 (B := 13) (by decide) (by decide) ?_ h.int13
  show (d.canLay0 && decide (d.depth ≤ 64) && decide (d.weight ≤ 2 ^ 20)) = true
  have w : d.weight ≤ 2 ^ 20 := Nat.le_trans h.wt (Nat.le_trans hu (by decide))
  rw [h.lay, decide_eq_true (Nat.le_trans h.dp ha), decide_eq_true w]
  rfl
/-! ### counting -/
theorem sum_count {α : Type} [DecidableEq α] {xs : List α} (nd : xs.Nodup) {a : α} (ha : a ∈ xs) : (xs.map fun o => if o = a then 1 else 0).sum = 1 := by
  induction xs with
  | nil => exact (List.not_mem_nil ha).elim
  | cons x r ih =>
    obtain ⟨h1, h2⟩ := List.nodup_cons.mp nd
    rw [List.map_cons, List.sum_cons]
    by_cases e : x = a
    · subst e
      have z : (r.map fun o => if o = x then 1 else 0).sum = 0 := by
        have all : ∀ l : List α, x ∉ l → (l.map fun o => if o = x then 1 else 0).sum = 0 := by
          intro l hl
          induction l with
          | nil => rfl
          | cons y s ih2 =>
            rw [List.map_cons, List.sum_cons, ih2 fun m => hl (List.mem_cons_of_mem _ m), if_neg (show ¬ (y = x) from fun q => hl (q ▸ List.mem_cons_self))]
        exact all r h1
      rw [z, if_pos rfl]
    · rcases List.mem_cons.mp ha with q | q
      · exact absurd q.symm e
      · rw [if_neg e, ih h2 q]
theorem sum_add {α : Type} (f g : α → Nat) : ∀ xs : List α, (xs.map fun o => f o + g o).sum = (xs.map f).sum + (xs.map g).sum
  | [] => rfl
  | x :: r => by
    have ih := sum_add f g r
    simp only [List.map_cons, List.sum_cons, ih]
    omega
theorem filter_or {α : Type} (p q : α → Bool) (dis : ∀ x, p x = true → q x = true → False) : ∀ xs : List α, (xs.filter fun x => p x || q x).length = (xs.filter p).length + (xs.filter q).length
  | [] => rfl
  | x :: r => by
    have ih := filter_or p q dis r
    have d := dis x
    cases hp : p x <;> cases hq : q x
    · simp [List.filter_cons, hp, hq, ih]
    · simp [List.filter_cons, hp, hq, ih]
      omega
    · simp [List.filter_cons, hp, hq, ih]
      omega
    · exact (d hp hq).elim
theorem filter_one {α : Type} [DecidableEq α] {xs : List α} (nd : xs.Nodup) {b : α} (hb : b ∈ xs) : (xs.filter fun x => decide (x = b)).length = 1 := by
  induction xs with
  | nil => exact (List.not_mem_nil hb).elim
  | cons x r ih =>
    obtain ⟨h1, h2⟩ := List.nodup_cons.mp nd
    by_cases e : x = b
    · subst e
      have z : r.filter (fun y => decide (y = x)) = [] := List.filter_eq_nil_iff.mpr fun y hy q => h1 (of_decide_eq_true q ▸ hy)
      simp [List.filter_cons, z]
    · rcases List.mem_cons.mp hb with q | q
      · exact absurd q.symm e
      · simp [List.filter_cons, e, ih h2 q]
/-- all pairs together, counted by their first one -/
theorem count_pairs {α : Type} [DecidableEq α] {xs : List α} (nd : xs.Nodup) : ∀ {T : List (α × α)}, T.Nodup → (∀ e ∈ T, e.1 ∈ xs ∧ e.2 ∈ xs) →
    (xs.map fun o => (xs.filter fun y => decide ((o, y) ∈ T)).length).sum = T.length
  | [], _, _ => by
    have z : ∀ l : List α, (l.map fun o => (xs.filter fun y => decide ((o, y) ∈ ([] : List (α × α)))).length).sum = 0 := by
      intro l
      induction l with
      | nil => rfl
      | cons a r ih =>
        rw [List.map_cons, List.sum_cons, ih]
        simp
    exact z xs
  | (a, b) :: T, nt, mem => by
    obtain ⟨n1, n2⟩ := List.nodup_cons.mp nt
    have ih := count_pairs nd n2 fun e he => mem e (List.mem_cons_of_mem _ he)
    obtain ⟨ma, mb⟩ := mem (a, b) List.mem_cons_self
    have each : ∀ o, (xs.filter fun y => decide ((o, y) ∈ (a, b) :: T)).length = (if o = a then 1 else 0) + (xs.filter fun y => decide ((o, y) ∈ T)).length := by
      intro o
      by_cases e : o = a
      · subst e
        rw [if_pos rfl, ← filter_one nd mb, ← filter_or]
        · congr 1
          apply List.filter_congr
          intro y _
          simp
        · intro x h1 h2
          have e := of_decide_eq_true h1
          subst e
          exact n1 (of_decide_eq_true h2)
      · rw [if_neg e, Nat.zero_add]
        congr 1
        apply List.filter_congr
        intro y _
        simp [e]
    rw [show (fun o => (xs.filter fun y => decide ((o, y) ∈ (a, b) :: T)).length) = fun o => (if o = a then 1 else 0) + (xs.filter fun y => decide ((o, y) ∈ T)).length from funext each, sum_add, sum_count nd ma, ih, List.length_cons]
    omega
end Fs

namespace Fs
open PySem PySem.Spec PyProof.Rows PySem.W L2
section
variable {prog : Program} {w : World} {A : Around} {E : Value → Shared → Prop} {st : Shared} {K : PySem.W.Frag} {x C f : Addr} {ox : Obj} {od : Option Obj}
theorem ne_body {b : Value} {Z : Value → Shared → Prop} (hu : A.units + 1 < cLine) (X : K.In st.heap) (I : PySem.W.InstAt st.heap x ox C od) (mk : PySem.W.makesIn K C = true)
    (he : PySem.W.findIn K (.ref C) "__eq__" = some (some (.ref f))) (hf : PySem.W.isFn K (.ref f) = true)
    (h : wpAny (model prog w) A.in1 (call (.ref f) [.ref x, b]) (fun v s' => ∃ k, v = .bool k ∧ Z (.bool !k) s') E st) :
    wpAny (model prog w) A (call (.builtin "object.__ne__") [.ref x, b]) Z E st := by
  have top : Looks (model prog w) st.heap (isInstance (.ref x) (.type "object")) true := I.type.andThen (PySem.W.makes_of X mk).top
  refine wpAny_call (codeAny_call_builtin PySem.F.cmp_object.ne.plain PySem.F.cmpEntry_ne (PySem.W.check_slot PySem.F.cmpKind_ne PySem.F.cmpSplit_ne top (PySem.F.cmpArgs_ne _ _) ?_))
  unfold Builtin.«object.__ne__»
  have call_ : ∀ {Y : Option Value → Shared → Prop}, (∀ k s', Z (.bool !k) s' → Y (some (.bool k)) s') → wpAny (model prog w) A.in1 (callSpecialIfBound? (.ref x) "__eq__" [b]) Y E st := fun {Y} y =>
    PySem.W.ifBound_K X I he hf (wpAny_mono h (fun v s' ⟨k, e, z⟩ => by subst e; exact y k s' z) fun _ _ q => q)
  repeat (first | with_reducible refine wpAny_cRoomFor hu ?_ | with_reducible refine call_ (fun k s' z => ?_) | wp_step)
  exact z
theorem ne_try {b : Value} {Z : Option Value → Shared → Prop} (hu : A.units + 1 < cLine) (X : K.In st.heap) (I : PySem.W.InstAt st.heap x ox C od) (mk : PySem.W.makesIn K C = true)
    (hn : PySem.W.findIn K (.ref C) "__ne__" = some (some (.builtin "object.__ne__"))) (he : PySem.W.findIn K (.ref C) "__eq__" = some (some (.ref f))) (hf : PySem.W.isFn K (.ref f) = true)
    (h : wpAny (model prog w) A.in1 (call (.ref f) [.ref x, b]) (fun v s' => ∃ k, v = .bool k ∧ Z (some (.bool !k)) s') E st) :
    wpAny (model prog w) A (tryCompare (.ref x) "__ne__" b) Z E st := by
  have one : wpAny (model prog w) A (callSpecialIfBound? (.ref x) "__ne__" [b]) (fun r s' => ∃ k, r = some (.bool !k) ∧ Z (some (.bool !k)) s') E st := by
    simp only [callSpecialIfBound?, bindSpecialIfBound?]
    refine wpAny_holding (wpAny_bind (wpAny_bind (wpAny_bind (I.type.here ((PySem.W.looks_findIn X hn).here ?_)))))
    simp only [PySem.F.cmp_object.ne.bind]
    have last : wpAny (model prog w) A (call (.builtin "object.__ne__") ([.ref x] ++ [b]) >>= fun v => pure (some v)) (fun r s' => ∃ k, r = some (.bool !k) ∧ Z (some (.bool !k)) s') E st :=
      wpAny_bind (ne_body (Z := fun v s' => wpAny (model prog w) A (pure (some v)) (fun r s' => ∃ k, r = some (.bool !k) ∧ Z (some (.bool !k)) s') E s') hu X I mk he hf
        (wpAny_mono h (fun v s' ⟨k, e, z⟩ => ⟨k, e, wpAny_pure ⟨k, rfl, z⟩⟩) fun _ _ q => q))
    refine wpAny_bind (wpAny_askSetting (wpAny_ite ?_))
    split
    · exact wpAny_bind (wpAny_pure (wpAny_pure (by exact last)))
    · exact wpAny_tryCatch (wpAny_bind (wpAny_pure (wpAny_pure (by exact last))))
  unfold tryCompare
  refine wpAny_bind (wpAny_mono one (fun r s' q => ?_) fun _ _ q => q)
  obtain ⟨k, rfl, z⟩ := q
  exact wpAny_pure z
theorem ne_own {b tb : Value} {Z : Value → Shared → Prop} (hu : A.units + 1 < cLine) (X : K.In st.heap) (I : PySem.W.InstAt st.heap x ox C od) (mk : PySem.W.makesIn K C = true)
    (hb : Looks (model prog w) st.heap (typeOf b) tb) (nf : PySem.W.notFirst K C tb = true)
    (hn : PySem.W.findIn K (.ref C) "__ne__" = some (some (.builtin "object.__ne__"))) (he : PySem.W.findIn K (.ref C) "__eq__" = some (some (.ref f))) (hf : PySem.W.isFn K (.ref f) = true)
    (h : wpAny (model prog w) A.in1 (call (.ref f) [.ref x, b]) (fun v s' => ∃ k, v = .bool k ∧ Z (.bool !k) s') E st) :
    wpAny (model prog w) A (richCompare .NotEq (.ref x) b) Z E st := by
  have one : wpAny (model prog w) A (tryCompare (.ref x) "__ne__" b) (fun r s' => ∃ v, r = some v ∧ Z v s') E st :=
    ne_try hu X I mk hn he hf (wpAny_mono h (fun v s' ⟨k, e, z⟩ => ⟨k, e, _, rfl, z⟩) fun _ _ q => q)
  unfold richCompare
  simp only [oneThing_ref]
  refine wpAny_holding (wpAny_bind (wpAny_cRoomFor (by omega) (wpAny_bind (I.type.here (wpAny_bind (hb.here ?_))))))
  split
  · rename_i q
    have e : PySem.W.subIn K tb (.ref C) = some false := by
      rcases Bool.or_eq_true_iff.mp nf with e | e
      · rw [beq_iff_eq.mp e] at q
        simp at q
      · exact beq_iff_eq.mp e
    refine wpAny_bind ((PySem.W.looks_subIn X e).here ?_)
    simp only [Bool.false_eq_true, if_false]
    refine wpAny_bind (wpAny_mono one (fun r s' z => ?_) fun _ _ q => q)
    obtain ⟨v, rfl, z⟩ := z
    exact wpAny_pure z
  · refine wpAny_bind (wpAny_pure ?_)
    simp only [Bool.false_eq_true, if_false]
    refine wpAny_bind (wpAny_mono one (fun r s' z => ?_) fun _ _ q => q)
    obtain ⟨v, rfl, z⟩ := z
    exact wpAny_pure z
end
/-! ### an own method, run a few calls deeper -/
section
variable {X : Cx} {ex : CXT} {n : Nat} {f C : Addr} {fd : FuncData} {ps : List Str} {sp : Sp} {E : XK}
theorem run_deep {A : Around} {pn : List (Addr × Obj)} {sg : L2.St} {G : Hp} {st : Shared} {Z : VK} {us : List Value} {vs : List V} (F : FnOk X.prog X.w X.K X.mg X.base ex n f fd ps sp) (hr : Room n A) (fr : A.frames = X.A.frames)
    (hb : Binds X.K fd ps []) (hx : Passes ex X E) (J : Inv X pn sg G st) (rel : Vals vs us) (want : sp vs G Z E) :
    wpAny (model X.prog X.w) A (call (.ref f) us) (EP X pn sg Z) X.xe st := by
  have sz : us.length = ps.length := rel.length.symm.trans (F.len _ _ _ _ want)
  have bind := hb st us J.kIn (by rw [List.append_nil]; exact sz)
  rw [List.append_nil] at bind
  have e := J.env0
  have env : Env0 X.prog X.w X.K X.mg X.base A X.stack st G := ⟨fr.trans e.frames, e.mod, e.bs, e.bsz, e.funs, e.frf, e.hok, e.bare⟩
  refine wpAny_call (codeAny_mono (F.run A X.stack st G ⟨us, []⟩ us vs Z E hr env bind rel want) fun r st2 fin => ?_)
  cases r with
  | error er => exact hx pn sg G st er st2 J fin
  | ok fl =>
    cases fl with
    | ret u => exact J.after fin
    | next => exact fin.elim
    | brk => exact fin.elim
    | cont => exact fin.elim
/-- x == y, x != y, x of an own class with its own == -/
def eqOwn (K : PySem.W.Frag) (C : Addr) (sp : Sp) (E : XK) (neg : Bool) : R2 := fun p q G Z => ∃ a dx fs t, p = .ref a ∧ G a = some (.ins C dx fs) ∧ TyX K G q t ∧ PySem.W.notFirst K C t = true ∧
  sp [p, q] G (fun v G' => ∃ k, v = .bl k ∧ Z (.bl (k != neg)) G') E
theorem op_eqOwn (F : FnOk X.prog X.w X.K X.mg X.base ex n f fd ps sp) (hs : PySem.W.findIn X.K (.ref C) "__eq__" = some (some (.ref f))) (hf : PySem.W.isFn X.K (.ref f) = true) (hb : Binds X.K fd ps []) (hx : Passes ex X E) (hr : Room n X.A) :
    OpR X (compareOp .Eq) (eqOwn X.K C sp E false) := by
  intro pn st sg G p q vp vq Z J rp rq ⟨a, dx, fs, t, ea, ha, ty, nf, want⟩
  subst ea
  obtain rfl : vp = Value.ref a := rp
  obtain ⟨mA, O, _⟩ := ins_get J.hok ha
  obtain ⟨od, I, _⟩ := O.look
  obtain ⟨m, fr⟩ := J.fr
  obtain ⟨Pt, kit, hp, _⟩ := kit_of J rq ty
  refine PySem.W.cmp_K (op := .Eq) (tb := t) hr.units0 fr J.ok.mod.kin I (kit.ty _ _ J.kIn hp) nf hs hf ?_
  refine wpAny_mono (run_deep (vs := [V.ref a, q]) F hr rfl hb hx J (.cons rfl (.cons rq .nil)) want) (fun u st2 fin => ?_) fun _ _ z => z
  obtain ⟨v, G2, J2, rv, k, rfl, z⟩ := fin
  obtain rfl : u = Value.bool k := rv
  exact ⟨_, G2, J2, (by cases k <;> rfl), z⟩
theorem op_neOwn (F : FnOk X.prog X.w X.K X.mg X.base ex n f fd ps sp) (mk : PySem.W.makesIn X.K C = true) (hn : PySem.W.findIn X.K (.ref C) "__ne__" = some (some (.builtin "object.__ne__")))
    (hs : PySem.W.findIn X.K (.ref C) "__eq__" = some (some (.ref f))) (hf : PySem.W.isFn X.K (.ref f) = true) (hb : Binds X.K fd ps []) (hx : Passes ex X E) (hr : Room (n + 1) X.A) :
    OpR X (compareOp .NotEq) (eqOwn X.K C sp E true) := by
  intro pn st sg G p q vp vq Z J rp rq ⟨a, dx, fs, t, ea, ha, ty, nf, want⟩
  subst ea
  obtain rfl : vp = Value.ref a := rp
  obtain ⟨mA, O, _⟩ := ins_get J.hok ha
  obtain ⟨od, I, _⟩ := O.look
  obtain ⟨Pt, kit, hp, _⟩ := kit_of J rq ty
  show wpAny _ _ (richCompare .NotEq (.ref a) vq) _ _ st
  refine ne_own (by have := hr.un; omega) J.kIn I mk (kit.ty _ _ J.kIn hp) nf hn hs hf ?_
  refine wpAny_mono (run_deep (vs := [V.ref a, q]) F hr.in1 rfl hb hx J (.cons rfl (.cons rq .nil)) want) (fun u st2 fin => ?_) fun _ _ z => z
  obtain ⟨v, G2, J2, rv, k, rfl, z⟩ := fin
  obtain rfl : u = Value.bool k := rv
  exact ⟨k, rfl, _, G2, J2, (by cases k <;> rfl), z⟩
/-- str(x) by an own __str__ -/
def strOwn (C : Addr) (sp : Sp) (E : XK) : List V → Hp → VK → Prop := fun xs G Z => ∃ a dx fs, xs = [.ref a] ∧ G a = some (.ins C dx fs) ∧ sp [.ref a] G (fun v G' => ∃ y, v = .str y ∧ Z (.str y) G') E
theorem call_strOwn (F : FnOk X.prog X.w X.K X.mg X.base ex n f fd ps sp) (hs : PySem.W.findIn X.K (.ref C) "__str__" = some (some (.ref f))) (hf : PySem.W.isFn X.K (.ref f) = true) (hb : Binds X.K fd ps []) (hx : Passes ex X E) (hr : Room (n + 2) X.A) :
    CallR X (.type "str") (strOwn C sp E) := by
  intro pn st sg G xs us Z J rel ⟨a, dx, fs, e, ha, want⟩
  subst e
  rw [Vals.ref1 rel]
  obtain ⟨mA, O, _⟩ := ins_get J.hok ha
  obtain ⟨od, I, _⟩ := O.look
  refine PySem.W.kso_call (by have := hr.un; show X.A.units + 1 + 1 < cLine; omega) J.kIn I hs hf ?_
  refine wpAny_mono (run_deep (vs := [V.ref a]) F hr.in1.in1 rfl hb hx J (.cons rfl .nil) want) (fun u st2 fin => ?_) fun _ _ z => z
  obtain ⟨v, G2, J2, rv, y, rfl, z⟩ := fin
  obtain ⟨t, rfl⟩ := rv
  exact ⟨.str y, G2, J2, ⟨t, rfl⟩, z⟩
end
end Fs

namespace Fs
open PySem PySem.Spec PyProof.Rows L2
/-! ### a, *b = a list -/
section
variable {prog : Program} {w : World} {A : Around} {E : Value → Shared → Prop} {st : Shared}
theorem items_star {l : Addr} {u : Value} {us : List Value} {Z : List Value → Shared → Prop} (calm : A.handled = none) (at_ : st.heap.IsList l (u :: us).toArray) (few : us.length ≤ 16000)
    (h : ∀ (h' : Heap) (tk : Nat), (∀ b o, st.heap.get? b = some o → h'.get? b = some o) → Z [u, .ref h'.objs.size] { st with heap := h'.push { cls := .type "list", data := .seq us.toArray }, toks := tk }) :
    wpAny (model prog w) A (unpackItems (.ref l) 2 (some 1)) Z E st := by
  have far : l ≠ st.heap.objs.size := by
    obtain ⟨o, ho, _⟩ := at_
    exact Nat.ne_of_lt (Heap.lt_size ho)
  have size : (u :: us).toArray.size = us.length + 1 := by rw [List.size_toArray, List.length_cons]
  unfold unpackItems
  refine wpAny_bind ?_
  unfold notIterableAtAll
  refine wpAny_bind (wpAny_specialOf at_.typeIs slot_list_iter.lookup (wpAny_pure ?_))
  simp only [Bool.false_eq_true, if_false]
  refine wpAny_bind (wpAny_holding (wpAny_pyIter_list at_ ?_))
  refine wpAny_bind (wpAny_holding (PySem.W.kun_draw far 1 0 _ _ ⟨_, Heap.get?_push_size _ rfl, rfl, rfl⟩ (at_.push _) (by omega) fun h1 it1 same1 => ?_))
  have at1 : h1.IsList l (u :: us).toArray := (at_.push _).extBut same1.extBut far
  have lt1 : st.heap.objs.size < h1.objs.size := by
    obtain ⟨o, ho, _⟩ := it1
    exact Heap.lt_size ho
  have lt2 : l < h1.objs.size := by
    obtain ⟨o, ho, _⟩ := at1
    exact Heap.lt_size ho
  have e1 : (List.drop 0 (u :: us).toArray.toList).take 1 = [u] := rfl
  rw [e1, if_neg (by show ¬ (1 < 1); omega)]
  refine wpAny_bind (wpAny_holding (PySem.W.kun_collect (s := { st with heap := h1 }) (T := "list_iterator") (k := 1) (.inr (.inr (.inl rfl))) (Walks.list (A := A.in1) calm st.heap.objs.size l far (u :: us).toArray) (fun j x y => y.1.typeIs) (by omega) ⟨it1, at1⟩ lt1 lt2 (fun h2 tk same2 => ?_)
    (by rw [sizeLine_eq]; omega)))
  have e2 : List.drop 1 (u :: us).toArray.toList = us := rfl
  rw [e2]
  show wpAny _ _ (if us.length < 0 then _ else _) _ _ _
  rw [if_neg (by omega)]
  show wpAny _ _ (newList (us.take (us.length - 0)) >>= fun d => pure ([u] ++ [d] ++ us.drop (us.length - 0))) _ _ _
  rw [Nat.sub_zero, List.take_length, List.drop_length]
  refine wpAny_bind (wpAny_newList (wpAny_pure (h h2 tk fun b o q => ?_)) (by rw [sizeLine_eq]; omega))
  have nb := Nat.ne_of_lt (Heap.lt_size q)
  exact same2 b o nb (same1.extBut b o nb (Heap.get?_push_of_some _ q))
end
def gStar (K : PySem.W.Frag) (t1 t2 : TG) : TG := fun v sg G Z => ∃ a x xs, v = .ref a ∧ SqL K G a (x :: xs) ∧ xs.length ≤ 16000 ∧ ∀ D, G D = none → t1 x sg (upd G D (.lst xs)) fun sg' G' => t2 (.ref D) sg' G' Z
theorem pg_star {X : Cx} {e1 e2 : Expr} {t1 t2 : TG} {k : Nat} {p1 pos : Pos} (hc : X.calm = true) (h1 : PG X e1 t1) (h2 : PG X e2 t2)
    (hl : assignEach [e1, .Starred e2 p1] X.env = [(false, assign e1 X.env), (true, assign e2 X.env)] := by rfl) : PG X (.Tuple [e1, .Starred e2 p1] k pos) (gStar X.K t1 t2) := by
  refine ⟨fun pn st sg G v u Z J rel want => ?_⟩
  obtain ⟨a, x, xs, rfl, seq, few, want⟩ := want
  cases rel
  obtain ⟨its, rv, pl, _⟩ := J.list seq
  cases rv with
  | @cons _ u _ us ru rus =>
  rw [PyProof.Rows.assign_Tuple]
  refine wpAny_bind (wpAny_standAt ?_)
  unfold unpack
  rw [hl]
  have lenU : us.length = xs.length := rus.length.symm
  refine wpAny_bind (wpAny_holding (items_star (J.ok.hd hc) pl.isList (by omega) fun h' tk kp => ?_))
  have J1 : Inv X pn sg G { st with heap := h', toks := tk } := J.kept kp
  have J2 := J1.lnew (t' := tk) rus (by rw [sizeLine_eq]; omega)
  show wpAny _ _ (assignInOrder [assign e1 X.env, assign e2 X.env] [u, .ref h'.objs.size]) _ _ _
  refine assignInOrder_cons (thn (h1.run pn _ sg _ x u _ J2 ru (want _ J1.fresh)) fun _ st3 ⟨sg3, G3, J3, want3⟩ => ?_)
  exact assignInOrder_cons (thn (h2.run pn st3 sg3 G3 (.ref h'.objs.size) _ _ J3 rfl want3) fun _ st4 fin => assignInOrder_nil fin)
/-! ### a class, called by a local name -/
def tMakeL (i : Nat) (C : Addr) (sp : Sp) (dvs : List V) (E : XK) (t : TA) : TE := fun sg G Z => sg[i]? = some (some (.ref C)) ∧ tMake C sp dvs E t sg G Z
theorem pe_makeL {X : Cx} {ex : CXT} {n i : Nat} {f C : Addr} {fd : FuncData} {ps : List Str} {sp : Sp} {dvs : List V} {ds : List Value} {E : XK} {x : Str} {p pos : Pos} {e : Expr} {es : List Expr} {t : TA}
    (M : Mk X.K C f) (F : FnOk X.prog X.w X.K X.mg X.base ex n f fd ps sp) (hr : Room (n + 1) X.A) (hN : X.N[i]? = some x) (hv : Vis X.env.scope x) (hb : Binds X.K fd ps ds) (hd : Vals dvs ds) (hx : Passes ex X E) (ha : PA X (e :: es) t)
    (hdb : (x == ("__debug__" : Str)) = false := by decide) (hcd : (x == ("__classdict__" : Str)) = false := by decide)
    (he : starEach (e :: es) X.env = (false, eval e X.env) :: starEach es X.env := by rfl) (hpl : (backTo pos (starEach es X.env)).any (·.1) = false := by rfl) :
    PE X (.Call (.Name x p) (e :: es) [] pos) (tMakeL i C sp dvs E t) := by
  refine ⟨fun pn st sg G Z J want => ?_⟩
  obtain ⟨here, want⟩ := want
  refine wpAny_Call_Name_kw (thn ((pe_var (pos := p) hN hv hdb hcd).run pn st sg G (fun v G1 => v = .ref C ∧ G = G1) J ⟨.ref C, here, rfl, rfl⟩) fun u st1 ⟨v, G1, J1, rel, q⟩ => ?_)
  obtain ⟨rfl, rfl⟩ := q
  cases rel
  refine PySem.W.callWith_K (h₀ := X.base) J1.ok.mod.kin M.kp (thn (ha.run pos pn st1 sg _ _ J1 want) fun us st2 ⟨vs, G2, J2, r, q⟩ => ⟨J2.kIn, ?_⟩) he hpl
  exact run_make M F hr hb hd hx J2 r q
/-! ### texts: pages -/
def nlS : Str := "\n"
def spS : Str := " "
def toS : Str := " > "
def lineT (e : Str × Str) : Str := Txt.join toS [e.1, e.2]
def pageL (xs : List Str) (ts : List (Str × Str)) : List Str := Txt.join spS xs :: ts.map lineT
def pageT (xs : List Str) (ts : List (Str × Str)) : Str := Txt.join nlS (pageL xs ts)
end Fs

namespace Fs
open PySem PySem.Spec PyProof.Rows L2
/-! ### len(x), bool(x) by an own __len__ -/
theorem len_body {prog : Program} {w : World} {A : Around} {E : Value → Shared → Prop} {st : Shared} {K : PySem.W.Frag} {x C f : Addr} {ox : Obj} {od : Option Obj} {Y : Value → Shared → Prop} (Xk : K.In st.heap) (I : PySem.W.InstAt st.heap x ox C od)
    (hs : PySem.W.findIn K (.ref C) "__len__" = some (some (.ref f))) (hf : PySem.W.isFn K (.ref f) = true) (h : wpAny (model prog w) A (call (.ref f) [.ref x]) (PySem.W.LenBack Y) E st) :
    wpAny (model prog w) A (Builtin.«len» ⟨[.ref x], []⟩) (fun fin s' => ∃ v, fin = .done (.ret v) ∧ Y v s') E st := by
  unfold Builtin.«len»
  refine wpAny_bind (m := oneArg "len" _) (wpAny_pure ?_)
  refine wpAny_bind (m := callSpecial? (.ref x) (Str.ofString "__len__")) (PySem.W.special_fn Xk I hs (beq_iff_eq.mp hf) (wpAny_mono h (fun r s' back => ?_) fun _ _ z => z))
  cases r with
  | int k u =>
    obtain ⟨⟨k0, k1⟩, y⟩ := back
    refine wpAny_bind (wpAny_holding (wpAny_pure ?_))
    refine wpAny_bind (wpAny_letGo ?_)
    show wpAny _ _ (if k < 0 then _ else _) _ _ _
    rw [if_neg (by omega)]
    show wpAny _ _ (if k ≥ 2 ^ 63 then _ else _) _ _ _
    rw [if_neg (by omega)]
    exact wpAny_bind (wpAny_mkInt (wpAny_pure ⟨_, rfl, y⟩))
  | _ => exact back.elim
section
variable {X : Cx} {ex : CXT} {n : Nat} {f C : Addr} {fd : FuncData} {ps : List Str} {sp : Sp} {E : XK}
def lenOwn (C : Addr) (sp : Sp) (E : XK) : List V → Hp → VK → Prop := fun xs G Z => ∃ a dx fs, xs = [.ref a] ∧ G a = some (.ins C dx fs) ∧ sp [.ref a] G (fun v G' => ∃ k : Int, v = .int k ∧ (0 ≤ k ∧ k < 2 ^ 63) ∧ Z (.int k) G') E
theorem len_run {A : Around} {pn : List (Addr × Obj)} {sg : L2.St} {G : Hp} {st : Shared} {Z : VK} {a dx : Addr} {fs : List (Str × V)} (F : FnOk X.prog X.w X.K X.mg X.base ex n f fd ps sp) (hs : PySem.W.findIn X.K (.ref C) "__len__" = some (some (.ref f))) (hf : PySem.W.isFn X.K (.ref f) = true)
    (hb : Binds X.K fd ps []) (hx : Passes ex X E) (hr : Room (n + 1) A) (fr : A.frames = X.A.frames) (J : Inv X pn sg G st) (ha : G a = some (.ins C dx fs)) (want : sp [.ref a] G (fun v G' => ∃ k : Int, v = .int k ∧ (0 ≤ k ∧ k < 2 ^ 63) ∧ Z (.int k) G') E) :
    wpAny (model X.prog X.w) A (call (.builtin "len") [.ref a]) (EP X pn sg Z) X.xe st := by
  obtain ⟨mA, O, _⟩ := ins_get J.hok ha
  obtain ⟨od, I, _⟩ := O.look
  obtain ⟨m, frm⟩ := J.fr
  refine PySem.W.len_K frm J.ok.mod.kin I hs hf ?_
  refine wpAny_mono (run_deep (vs := [V.ref a]) F hr.in1 (by exact fr) hb hx J (.cons rfl .nil) want) (fun u st2 fin => ?_) fun _ _ z => z
  obtain ⟨v, G2, J2, rv, k, rfl, hk, z⟩ := fin
  obtain ⟨t, rfl⟩ := rv
  exact ⟨hk, .int k, G2, J2.tok _, ⟨_, rfl⟩, z⟩
theorem call_lenOwn (F : FnOk X.prog X.w X.K X.mg X.base ex n f fd ps sp) (hs : PySem.W.findIn X.K (.ref C) "__len__" = some (some (.ref f))) (hf : PySem.W.isFn X.K (.ref f) = true) (hb : Binds X.K fd ps []) (hx : Passes ex X E) (hr : Room (n + 1) X.A) :
    CallR X (.builtin "len") (lenOwn C sp E) := by
  intro pn st sg G xs us Z J rel ⟨a, dx, fs, e, ha, want⟩
  subst e
  rw [Vals.ref1 rel]
  exact len_run F hs hf hb hx hr rfl J ha want
theorem truthy_own {A : Around} {pn : List (Addr × Obj)} {sg : L2.St} {G : Hp} {st : Shared} {Z : Bool → Shared → Prop} {a dx : Addr} {fs : List (Str × V)} (F : FnOk X.prog X.w X.K X.mg X.base ex n f fd ps sp) (hs : PySem.W.findIn X.K (.ref C) "__len__" = some (some (.ref f))) (hf : PySem.W.isFn X.K (.ref f) = true)
    (h0 : PySem.W.findIn X.K (.ref C) "__bool__" = some none) (hb : Binds X.K fd ps []) (hx : Passes ex X E) (hr : Room (n + 1) A) (fr : A.frames = X.A.frames) (J : Inv X pn sg G st) (ha : G a = some (.ins C dx fs))
    {Y : VK} (want : sp [.ref a] G (fun v G' => ∃ k : Int, v = .int k ∧ (0 ≤ k ∧ k < 2 ^ 63) ∧ Y (.int k) G') E) (fin : ∀ (k : Int) G' st', Inv X pn sg G' st' → Y (.int k) G' → Z (k != 0) st') :
    wpAny (model X.prog X.w) A (truthy (.ref a)) Z X.xe st := by
  obtain ⟨mA, O, _⟩ := ins_get J.hok ha
  obtain ⟨od, I, _⟩ := O.look
  have XK : X.K.In st.heap := J.kIn
  unfold truthy
  refine wpAny_bind (m := callSpecial? (.ref a) (Str.ofString "__bool__")) (wpAny_bind (wpAny_bind (I.type.here ((PySem.W.looks_findIn XK h0).here (wpAny_pure ?_)))))
  refine wpAny_bind (wpAny_bind (I.type.here ((PySem.W.looks_findIn XK hs).here ?_)))
  show wpAny _ _ (if (some (Value.ref f)).isNone = true then _ else _) _ _ _
  rw [if_neg (by simp)]
  have key : wpAny (model X.prog X.w) A (runValue (.builtin "len" ⟨[.ref a], []⟩)) (fun r st' => ∃ (k : Int) (t : Tok), r = .int k t ∧ Z (k != 0) st') X.xe st := by
    refine wpAny_runValue (codeAny_builtin entry_len ?_)
    rw [Around.under_plainId plain_len _]
    refine wpAny_mono (len_body (Y := fun r st' => ∃ (k : Int) (t : Tok), r = .int k t ∧ Z (k != 0) st') XK I hs hf ?_) (fun fn st' q => by obtain ⟨r, rfl, q⟩ := q; exact q) fun _ _ q => q
    refine wpAny_mono (run_deep (vs := [V.ref a]) F hr.in1 (by exact fr) hb hx J (.cons rfl .nil) want) (fun u st2 q => ?_) fun _ _ q => q
    obtain ⟨v, G2, J2, rv, k, rfl, hk, y⟩ := q
    obtain ⟨t, rfl⟩ := rv
    exact ⟨hk, k, _, rfl, fin k G2 _ (J2.tok _) y⟩
  refine wpAny_bind (wpAny_mono key (fun r st' q => ?_) fun _ _ q => q)
  obtain ⟨k, t, rfl, q⟩ := q
  exact wpAny_pure q
theorem bool_new_in {prog : Program} {w : World} (v : Value) : MeetsIn prog w (Builtin.«bool.__new__» ⟨[.type "bool", v], []⟩)
    (fun A R s => wpAny (model prog w) A.in1 (truthy v) (fun b s' => R (.ok (.ret (.bool b))) s') (fun e s' => R (.error e) s') s) :=
  .of_wp fun A R s h => by
    have sub := F.conv_sub_bool
    have go : ∀ {Y : Bool → Shared → Prop}, (∀ b s', R (.ok (.ret (.bool b))) s' → Y b s') → wpAny (model prog w) A.in1 (truthy v) Y (fun e s' => R (.error e) s') s := fun y => wpAny_mono h y fun _ _ z => z
    obtain ⟨hp, g, d, tk, os⟩ := s
    repeat (first | assumption | with_reducible refine go (fun b s' z => ?_) | wp_step)
    all_goals first | exact ⟨_, rfl, z⟩ | exact z | skip
def boolZ (Z : VK) : VK := fun v G => ∃ k : Int, v = .int k ∧ Z (.bl (k != 0)) G
def boolOwn (C : Addr) (sp : Sp) (E : XK) : List V → Hp → VK → Prop := fun xs G Z => ∃ a dx fs, xs = [.ref a] ∧ G a = some (.ins C dx fs) ∧ sp [.ref a] G (fun v G' => ∃ k : Int, v = .int k ∧ (0 ≤ k ∧ k < 2 ^ 63) ∧ boolZ Z (.int k) G') E
theorem call_boolOwn (Fn : FnOk X.prog X.w X.K X.mg X.base ex n f fd ps sp) (hs : PySem.W.findIn X.K (.ref C) "__len__" = some (some (.ref f))) (hf : PySem.W.isFn X.K (.ref f) = true) (h0 : PySem.W.findIn X.K (.ref C) "__bool__" = some none) (hb : Binds X.K fd ps [])
    (hx : Passes ex X E) (hr : Room (n + 3) X.A) : CallR X (.type "bool") (boolOwn C sp E) := by
  intro pn st sg G xs us Z J rel ⟨a, dx, fs, e, ha, want⟩
  subst e
  rw [Vals.ref1 rel]
  refine callType_newIn PySem.F.called_bool PySem.F.newNe_bool (PySem.F.typeCall_bool_1 _) (PySem.F.newCall_bool_1 _) (fun obj => PySem.F.args_object_init_2 obj _) PySem.F.entry_bool_new (bool_new_in _) ?_
  refine truthy_own (Y := boolZ Z) Fn hs hf h0 hb hx hr.in1.in1 rfl J ha want (fun k G' st' J' y => ?_)
  obtain ⟨k2, e, y⟩ := y
  cases e
  exact ⟨rfl, .bl (k != 0), G', J', rfl, y⟩
end
/-! ### C.m(k = v), m a classmethod -/
def tCMethKw (C : Addr) (n : Nat) (sp : Sp) (gV : List V → List V → List V) (E : XK) (ta : TE) (tk : TA) : TE := fun sg G Z => ta sg G fun x G1 => x = .ref C ∧ tk sg G1 fun zs G2 => zs.length = n ∧ sp (gV [.ref C] zs) G2 Z E
section
variable {X : Cx} {ex : CXT} {n : Nat} {g C p : Addr} {mc : Value} {fd : FuncData} {ps ks : List Str} {sp : Sp} {E : XK} {m : Str} {o : Expr} {apos pos : Pos} {kws : List Keyword} {ta : TE} {tk : TA} {gU : List Value → List Value → List Value} {gV : List V → List V → List V}
theorem pe_cmethKw {pl : Sem Bool} (ho : PE X o ta) (r : ClX.CRead X.K C mc) (c : ClX.CMet X.K C mc m p g) (F : FnOk X.prog X.w X.K X.mg X.base ex n g fd ps sp) (hr : Room n X.A) (hb : KBn X.K fd ps 1 ks gU gV) (hx : Passes ex X E) (hkw : PK X kws tk)
    (hall : (backToKw pos (keywordEach kws X.env)).all (·.1.isSome) = true := by rfl) (hks : (backToKw pos (keywordEach kws X.env)).filterMap (·.1) = ks := by rfl)
    (hpl : ((backTo pos (starEach [] X.env)).any (·.1) || (backToKw pos (keywordEach kws X.env)).any (·.1.isNone)) = false := by rfl)
    (ht : eval (.Call (.Attribute o m apos) [] kws pos) X.env = (do
      let obj ← eval o X.env
      standAt apos.atName
      let (fn, one) ← holding [obj] (getMethod obj m pl)
      callWith pos fn one (backTo pos (starEach [] X.env)) (backToKw pos (keywordEach kws X.env))) := by rfl) :
    PE X (.Call (.Attribute o m apos) [] kws pos) (tCMethKw C ks.length sp gV E ta tk) := by
  refine ⟨fun pn st sg G Z J h => PySem.W.methodCall_KW (pl := pl) (thn (ho.run pn st sg G _ J h) ?_) ht⟩
  rintro u st1 ⟨y, G1, J1, ry, rfl, h1⟩
  obtain rfl : u = Value.ref C := ry
  refine ClX.getmethcm_ok J1 r c fun st2 J2 => ?_
  refine PySem.W.callWith_of (P := PySem.W.MethP X.K st1.heap.objs.size g (.ref C)) hpl (PySem.W.keeps_M c.fi) (evalArgs_kw2_nil hall ?_)
  refine thn (hkw.run pos _ st2 sg G1 _ J2 h1) fun ws st3 ⟨zs, G3, J3, rz, len, h3⟩ => ⟨⟨ClX.pin_at J3, J3.kIn⟩, ?_⟩
  rw [hks]
  have lw : ws.length = ks.length := rz.length.symm.trans len
  have done : wpAny (model X.prog X.w) X.A (call (.ref st1.heap.objs.size) [] (ks.zip ws)) (EP X ((st1.heap.objs.size, PySem.W.methodObj (.ref g) (.ref C)) :: pn) sg Z) X.xe st3 := by
    refine wpAny_call (PySem.W.method_call (ClX.pin_at J3) ?_)
    refine codeAny_mono (F.run X.A X.stack st3 G3 ⟨[.ref C], ks.zip ws⟩ (gU [.ref C] ws) (gV [.ref C] zs) Z E hr J3.env0 (hb.to st3 [.ref C] ws J3.kIn rfl lw) (hb.rel (.cons rfl .nil) rz) h3) fun r st4 fin => ?_
    cases r with
    | error er => exact hx _ sg G3 st3 er st4 J3 fin
    | ok fl =>
      cases fl with
      | ret u => exact J3.after fin
      | next => exact fin.elim
      | brk => exact fin.elim
      | cont => exact fin.elim
  exact thn done fun _ _ y => ClX.unpinE y
end
end Fs

namespace Fs
open PySem PySem.Spec PyProof.Rows L2
/-! ### the text by places -/
def top (i : Nat) : Stmt := PySem.Challenge.pw_forcedsteer_k02_works_made.main.body.getD i (.Pass ⟨0, 0, 0, 0⟩)
abbrev sJug : Stmt := (top 21)
abbrev sSip : Stmt := (top 22)
/-! ### heaps that grow but for what stands at one address -/
def Grow (j : Addr) (G G' : Hp) : Prop := ∀ b o, b ≠ j → G b = some o → G' b = some o
theorem Grow.refl (j : Addr) (G : Hp) : Grow j G G := fun _ _ _ q => q
theorem Grow.trans {j : Addr} {G G1 G2 : Hp} (a : Grow j G G1) (b : Grow j G1 G2) : Grow j G G2 := fun c o n q => b c o n (a c o n q)
theorem Grow.new {j p : Addr} {G G' : Hp} {o : HO} (g : Grow j G G') (n : G' p = none) : Grow j G (upd G' p o) := fun b u ne q => by
  rw [upd_ne (ne_of_none (g b u ne q) n)]
  exact g b u ne q
theorem Grow.at_ {j : Addr} {G G' : Hp} {o : HO} (g : Grow j G G') : Grow j G (upd G' j o) := fun b u ne q => by
  rw [upd_ne ne]
  exact g b u ne q
theorem Grow.of {j : Addr} {G G' : Hp} (s : Same G G') : Grow j G G' := fun b o _ q => s b o q
/-- what was free, an object made since the first heap, may change too -/
theorem Grow.put {j l : Addr} {G G' : Hp} {o : HO} (g : Grow j G G') (n : G l = none) : Grow j G (upd G' l o) := fun b u ne q => by
  rw [upd_ne (ne_of_none q n)]
  exact g b u ne q
theorem Grow.free {j p : Addr} {G G' : Hp} (g : Grow j G G') (np : p ≠ j) (n : G' p = none) : G p = none := by
  cases c : G p with
  | none => rfl
  | some o =>
    rw [g p o np c] at n
    cases n
theorem Grow.seqL {K : PySem.W.Frag} {j a : Addr} {G G' : Hp} {xs : List V} (g : Grow j G G') (ne : a ≠ j) (h : SqL K G a xs) : SqL K G' a xs := by
  rcases h with (h | ⟨o, h⟩) | h
  · exact .inl (.inl (g _ _ ne h))
  · exact .inl (.inr ⟨o, g _ _ ne h⟩)
  · exact .inr h
theorem Grow.seqT {K : PySem.W.Frag} {j a : Addr} {G G' : Hp} {xs : List V} (g : Grow j G G') (ne : a ≠ j) (h : SqT K G a xs) : SqT K G' a xs := by
  rcases h with (h | ⟨o, h⟩) | h
  · exact .inl (.inl (g _ _ ne h))
  · exact .inl (.inr ⟨o, g _ _ ne h⟩)
  · exact .inr h
/-! ### the jug -/
def Jug (G : Hp) (j : Addr) : Prop := ∃ a b c : Int, G j = some (.lst [.int a, .int b, .int c]) ∧ 0 ≤ b ∧ b < 2147483249
theorem Jug.some_ {G : Hp} {j : Addr} (h : Jug G j) : G j ≠ none := by
  obtain ⟨a, b, c, e, _⟩ := h
  rw [e]
  nofun
theorem Jug.ne {G : Hp} {j p : Addr} (h : Jug G j) (n : G p = none) : p ≠ j := fun e => h.some_ (e ▸ n)
theorem Jug.ne_tup {G : Hp} {j p : Addr} {xs : List V} (h : Jug G j) (n : G p = some (.tup xs)) : p ≠ j := fun e => by
  obtain ⟨a, b, c, q, _⟩ := h
  rw [e, q] at n
  cases n
theorem Jug.new {G : Hp} {j p : Addr} {o : HO} (h : Jug G j) (n : G p = none) : Jug (upd G p o) j := by
  obtain ⟨a, b, c, q, r⟩ := h
  exact ⟨a, b, c, by rw [upd_ne (ne_of_none q n)]; exact q, r⟩
structure TB (mg : Str → Option Value) : Prop where
  len : mg "len" = none
  int : mg "int" = none
  abs : mg "abs" = none
  dvm : mg "divmod" = none
  rng : mg "range" = none
  tup : mg "tuple" = none
/-- a draw: some number below the most -/
def spSip : Sp := fun vs G Z _ => ∃ (j : Addr) (m : Int), vs = [.ref j, .int m] ∧ Jug G j ∧ 0 < m ∧ m < 1000 ∧
  ∀ (G' : Hp) (r : Int), 0 ≤ r → r < m → Jug G' j → Grow j G G' → Z (.int r) G'
theorem div_ok {i j : Int} (h0 : 0 < j) (h1 : j < 1000) : CDivP i j := ⟨h0, PyProof.noPylong_small (by omega)⟩
section
variable {P : Program} {w : World} {K : PySem.W.Frag} {mg : Str → Option Value} {base : Heap}
theorem scSip : FnScope ["_law_jug_here", "_law_most", "_law_digit"] ["_law_jug_here", "_law_most"] (defScope sSip) := ⟨rfl, rfl, rfl, by decide +kernel, rfl, by decide +kernel, by decide +kernel⟩
theorem ok_sip {f : Addr} {fd : FuncData} (F : Fun K "_law_sip" "_law_sip" sSip f fd) (T : TB mg) : FnOk P w K mg base CX0 1 f fd ["_law_jug_here", "_law_most"] spSip := by
  refine F.ok scSip (fun vs G Z E h => ?_) (fun cdv A out st G vs Z E hr h => ?_)
  · obtain ⟨j, m, rfl, _⟩ := h
    rfl
  · obtain ⟨j, m, rfl, ⟨a, b, c, hj, b0, b1⟩, m0, m1, k⟩ := h
    refine ⟨_, pss_cons (ps_if (pt_cmpR op_gt (pe_ix ix_list (pv 0) pe_int (fun _ _ => rfl)) pe_int (nomark _))
        (pss_cons (ps_asg (pe_callB call_divmodW (by rfl) T.dvm boot_divmod (pa_cons (pe_ix ix_list (pv 0) pe_int (fun _ _ => rfl)) (pa_cons (pv 1) pa_nil)))
            (pg_tup rfl (pgs_cons (pg_sub (pv 0) pe_int set_list) (pgs_cons (pg_name (i := 2) scSip.nd rfl (Or.inl rfl)) pgs_nil))))
          (pss_one (ps_ret (pv 2)))) pss_nil)
      (pss_cons (ps_asg (pe_op op_add (pe_ix ix_list (pv 0) pe_int (fun _ _ => rfl)) pe_int) (pg_sub (pv 0) pe_int set_list))
      (pss_cons (ps_asg (pe_op op_mod (pe_callTy call_int1 (by rfl) T.int boot_int (pa_cons (pe_op op_add (pe_op op_mul (pe_ix ix_list (pv 0) pe_int (fun _ _ => rfl)) pe_int)
            (pe_op op_mul pe_int (pe_ix ix_list (pv 0) pe_int (fun _ _ => rfl)))) pa_nil)) pe_int) (pg_sub (pv 0) pe_int set_list))
      (pss_one (ps_ret (pe_op op_mod (pe_callTy call_int1 (by rfl) T.int boot_int (pa_cons (pe_op op_fdiv (pe_ix ix_list (pv 0) pe_int (fun _ _ => rfl)) pe_int) pa_nil)) (pv 1)))))), ?_⟩
    refine ⟨_, rfl, j, _, _, _, rfl, rfl, SqL.of hj, rfl, _, _, rfl, rfl, _, rfl, ?_⟩
    refine ite2 (fun _ => ?_) (fun _ => ?_)
    · refine ⟨_, rfl, j, _, _, _, rfl, rfl, SqL.of hj, rfl, _, rfl, _, _, rfl, div_ok m0 m1, fun p hp => ?_⟩
      have np : j ≠ p := ne_of_none hj hp
      refine ⟨p, _, rfl, SqT.of upd_same, rfl, _, _, rfl, _, rfl, j, _, _, _, rfl, rfl, by rw [upd_ne np]; exact hj, rfl, _, _, rfl, ?_⟩
      refine ⟨rfl, _, rfl, k _ _ (Int.emod_nonneg _ (by omega)) (Int.emod_lt_of_pos _ m0) ⟨_, _, _, upd_same, b0, b1⟩ ?_⟩
      exact ((Grow.refl j G).new hp).at_
    · refine ⟨_, rfl, j, _, _, _, rfl, rfl, SqL.of hj, rfl, _, _, rfl, rfl, _, rfl, j, _, _, _, rfl, rfl, hj, rfl, ?_⟩
      refine ⟨_, rfl, j, _, _, _, rfl, rfl, SqL.of upd_same, rfl, _, _, rfl, rfl, .inr ⟨by decide, by decide⟩, _, rfl, j, _, _, _, rfl, rfl, SqL.of upd_same, rfl, _, _, rfl, rfl, .inl ⟨by decide, by decide⟩, _, _, rfl, rfl, .inl ⟨_, rfl, _, _, rfl, rfl, (by show (0 : Int) < 2147483249; decide), ?_⟩⟩
      refine ⟨_, rfl, j, _, _, _, rfl, rfl, upd_same, rfl, ?_⟩
      refine ⟨_, rfl, j, _, _, _, rfl, rfl, SqL.of upd_same, rfl, _, _, rfl, rfl, ⟨by decide, by decide⟩, .inl ⟨_, rfl, _, rfl, _, _, rfl, rfl, m0, ?_⟩⟩
      refine k _ _ (Int.emod_nonneg _ (by omega)) (Int.emod_lt_of_pos _ m0) ⟨_, _, _, upd_same, Int.emod_nonneg _ (by omega), Int.emod_lt_of_pos _ (by omega)⟩ ?_
      exact ((Grow.refl j G).at_).at_
end
end Fs

namespace Fs
open PySem PySem.Spec PyProof.Rows L2
theorem via {te : TE} {sg : L2.St} {G : Hp} {Z : VK} (Pr : V → Hp → Prop) (h1 : ∀ Z' : VK, (∀ v G', Pr v G' → Z' v G') → te sg G Z') (h2 : ∀ v G', Pr v G' → Z v G') : te sg G Z := h1 Z h2
theorem via0 {te : TE} {sg : L2.St} {G : Hp} {Z : VK} {α : Type} (f : α → V) (h1 : ∀ Z' : VK, (∀ i, Z' (f i) G) → te sg G Z') (h2 : ∀ i, Z (f i) G) : te sg G Z := h1 Z h2
def spJug (K : PySem.W.Frag) : Sp := fun vs G Z _ => ∃ (a : Addr) (k : Int) (ns : List Int), vs = [.ref a, .int k] ∧ SqL K G a (ns.map V.int) ∧ 0 ≤ k ∧
  ∀ (G' : Hp) (j : Addr), G j = none → Jug G' j → Same G G' → Z (.ref j) G'
theorem _root_.L2.Same.new {G G' : Hp} {p : Addr} {o : HO} (g : Same G G') (n : G' p = none) : Same G (upd G' p o) := fun b u q => by
  rw [upd_ne (ne_of_none (g b u q) n)]
  exact g b u q
theorem mem_cut {xs : List V} {lo hi : Option Int} {v : V} (h : v ∈ cutV xs lo hi) : v ∈ xs := List.mem_of_mem_drop (List.mem_of_mem_take h)
theorem atI_in {ns : List Int} {k : Int} (h0 : 0 ≤ k) (h1 : k < (ns.map V.int).length) : ∃ z, atI (ns.map V.int) k = some (V.int z) := by
  obtain ⟨n, rfl⟩ : ∃ n : Nat, k = n := ⟨k.toNat, by omega⟩
  have lt : n < ns.length := by
    rw [List.length_map] at h1
    omega
  exact ⟨ns[n], atI_nat (by simp [lt])⟩
section
variable {P : Program} {w : World} {K : PySem.W.Frag} {mg : Str → Option Value} {base : Heap}
theorem scJug : FnScope ["_law_script", "_law_at", "_law_figure", "_law_seed", "_law_each"] ["_law_script", "_law_at"] (defScope sJug) := ⟨rfl, rfl, rfl, by decide +kernel, rfl, by decide +kernel, by decide +kernel⟩
theorem ok_jug {f : Addr} {fd : FuncData} (F : Fun K "_law_jug" "_law_jug" sJug f fd) (T : TB mg) : FnOk P w K mg base CX0 1 f fd ["_law_script", "_law_at"] (spJug K) := by
  refine F.ok scJug (fun vs G Z E h => ?_) (fun cdv A out st G vs Z E hr h => ?_)
  · obtain ⟨a, k, ns, rfl, _⟩ := h
    rfl
  · obtain ⟨a, k, ns, rfl, hS, k0, fin⟩ := h
    refine ⟨_, pss_cons (ps_set (i := 2) scJug.nd rfl (Or.inl rfl) (pe_ifExp (pt_cmpR op_lt (pv 1) (pe_callB call_len_seq (by rfl) T.len PySem.boot_len (pa_cons (pv 0) pa_nil)) (nomark _))
          (pe_ix ix_list (pv 0) (pv 1) (fun _ _ => rfl)) (pe_op op_add (pe_op op_mul pe_int (pv 1)) pe_int)))
      (pss_cons (ps_set (i := 3) scJug.nd rfl (Or.inl rfl) (pe_op op_add pe_int (pe_op op_mul pe_int (pv 1))))
      (pss_cons (ps_for PassesOwn.never rfl (pi_list (pe_op op_cat (pe_lst (pa_cons (pv 2) pa_nil)) (pe_slice sl_list (pv 0) po_none (po_some pe_int))))
          (pg_name (i := 4) scJug.nd rfl (Or.inl rfl))
          (pss_one (ps_set (i := 3) scJug.nd rfl (Or.inl rfl) (pe_op op_mod (pe_callTy call_int1 (by rfl) T.int boot_int (pa_cons (pe_op op_add (pe_op op_mul (pv 3) pe_int) (pv 4)) pa_nil)) pe_int))))
      (pss_one (ps_ret (pe_lst (pa_cons (pe_ifExp (pt_cmpR op_ge (pe_callB call_abs (by rfl) T.abs boot_abs (pa_cons (pv 2) pa_nil)) (pe_op op_pow pe_int pe_int) (nomark _))
          (pe_callB call_abs (by rfl) T.abs boot_abs (pa_cons (pv 2) pa_nil)) pe_int) (pa_cons (pv 3) (pa_cons pe_int pa_nil)))))))), ?_⟩
    show tIf _ _ _ _ _ _
    refine via0 V.int (fun Z' q => ?_) (fun z => ?_)
    · refine ⟨_, rfl, _, rfl, a, _, rfl, .inl hS, _, _, rfl, rfl, _, rfl, ?_⟩
      refine ite2 (fun c => ?_) (fun c => ?_)
      · obtain ⟨z, hz⟩ := atI_in k0 (of_decide_eq_true c)
        exact ⟨_, rfl, _, rfl, a, _, _, _, rfl, rfl, hS, hz, q _⟩
      · exact ⟨_, rfl, _, _, rfl, rfl, .inl ⟨by decide, by decide⟩, _, _, rfl, rfl, q _⟩
    · refine ⟨_, rfl, _, _, rfl, rfl, .inl ⟨by decide, by decide⟩, _, _, rfl, rfl, ?_⟩
      refine ⟨_, rfl, by show 1 ≤ sizeLine; decide, fun p hp => ?_⟩
      refine ⟨_, rfl, _, rfl, a, _, rfl, ((Same.refl G).new hp).seq hS, fun q hq => ?_⟩
      have npq : p ≠ q := fun e => by
        rw [e] at hp
        rw [← e, upd_same] at hq
        cases hq
      have lenCut : (cutV (ns.map V.int) Option.none (some 6)).length ≤ 6 := by
        unfold cutV
        rw [List.length_take]
        refine Nat.le_trans (Nat.min_le_left _ _) (Nat.le_trans (Nat.sub_le _ _) ?_)
        show HT.sIx _ _ (some 6) ≤ 6
        unfold HT.sIx
        simp
        omega
      refine ⟨p, q, _, _, rfl, rfl, by rw [upd_ne npq]; exact upd_same, upd_same, ?_, fun r hr2 => ?_⟩
      · refine Nat.le_trans (Nat.add_le_add_left lenCut _) ?_
        show 1 + 6 ≤ sizeLine
        decide
      · have g3 : Same G (upd (upd (upd G p (.lst [.int z])) q (.lst (cutV (ns.map V.int) Option.none (some 6)))) r (.lst ([V.int z] ++ cutV (ns.map V.int) Option.none (some 6)))) := (((Same.refl G).new hp).new hq).new hr2
        refine ⟨r, rfl, ⟨_, SqL.of upd_same⟩, for_list (K := K) (a := r) (xs := [V.int z] ++ cutV (ns.map V.int) Option.none (some 6)) (fun i σ G' => ∃ (b : Int) (v : Option V), σ = [some (.ref a), some (.int k), some (.int z), some (.int b), v] ∧ (0 < i → 0 ≤ b ∧ b < 2147483249) ∧
            G' = (upd (upd (upd G p (.lst [.int z])) q (.lst (cutV (ns.map V.int) Option.none (some 6)))) r (.lst ([V.int z] ++ cutV (ns.map V.int) Option.none (some 6))))) ⟨_, _, rfl, fun h => absurd h (Nat.lt_irrefl _), rfl⟩ (fun i σ G' _ ⟨_, _, _, _, e⟩ => by rw [e]; exact SqL.of upd_same) ?_ ?_⟩
        · rintro i y σ _ hi ⟨b, v, rfl, hb, rfl⟩
          obtain ⟨u, rfl⟩ : ∃ u, y = V.int u := by
            have m := List.mem_of_getElem? hi
            rcases List.mem_append.mp m with h | h
            · exact ⟨z, List.mem_singleton.mp h⟩
            · obtain ⟨u, _, e⟩ := List.mem_map.mp (mem_cut h)
              exact ⟨u, e.symm⟩
          refine ⟨_, rfl, _, _, rfl, rfl, .inr ⟨by decide, by decide⟩, _, rfl, _, _, rfl, rfl, .inl ⟨_, rfl, _, _, rfl, rfl, (by show (0 : Int) < 2147483249; decide), ?_⟩⟩
          exact ⟨_, _, rfl, fun _ => ⟨Int.emod_nonneg _ (by decide), Int.emod_lt_of_pos _ (by decide)⟩, rfl⟩
        · rintro σ _ ⟨b, v, rfl, hb, rfl⟩
          have bb := hb (by simp)
          dsimp only [tRet, tLst, tCons]
          refine via0 V.int (fun Z' q => ?_) (fun z2 => ?_)
          · refine ⟨_, rfl, _, rfl, _, _, rfl, rfl, ⟨by decide, by decide, by decide⟩, _, _, rfl, rfl, _, rfl, ?_⟩
            refine ite2 (fun c => ?_) (fun c => ?_)
            · exact ⟨_, rfl, _, rfl, q _⟩
            · exact q _
          · refine ⟨_, rfl, by show 3 ≤ sizeLine; decide, fun t ht => ?_⟩
            exact fin _ t (g3.free ht) ⟨_, _, _, upd_same, bb⟩ (g3.new ht)
end
end Fs

namespace Fs
open PySem PySem.Spec PyProof.Rows L2
abbrev sHeads : Stmt := (top 23)
/-- a def of the module's own, called by its name -/
structure DefAt (K : PySem.W.Frag) (mg : Str → Option Value) (x : Str) (ps : List Str) (d : Stmt) (f : Addr) (fd : FuncData) : Prop where
  fn : Fun K x x d f fd
  gl : mg x = some (.ref f)
  kp : PySem.W.keepIn K (.ref f) = true
  bd : Binds K fd ps []
def pool0 : List Str := ["a", "b", "cog", "d2", "e", "z9999999", "arm", "x"]
def Heads (xs : List Str) : Prop := xs ≠ [] ∧ xs.Nodup ∧ ∀ x ∈ xs, x ∈ pool0
def spHeads : Sp := fun vs G Z _ => ∃ (j : Addr) (m : Int), vs = [.ref j, .int m] ∧ Jug G j ∧ 0 < m ∧ m ≤ 8 ∧
  ∀ (G' : Hp) (p : Addr) (xs : List Str), Heads xs → (xs.length : Int) ≤ m → G p = none → G' p = some (.tup (xs.map V.str)) → Jug G' j → Grow j G G' → Z (.ref p) G'
theorem pool_nodup : pool0.Nodup := by decide +kernel
theorem erase_map {α β : Type} (f : α → β) : ∀ (l : List α) (k : Nat), (l.map f).eraseIdx k = (l.eraseIdx k).map f
  | [], _ => rfl
  | _ :: _, 0 => rfl
  | a :: r, k + 1 => congrArg (f a :: ·) (erase_map f r k)
theorem erase_perm {α : Type} : ∀ (l : List α) (k : Nat) (h : k < l.length), (l[k] :: l.eraseIdx k).Perm l
  | [], _, h => absurd h (Nat.not_lt_zero _)
  | _ :: _, 0, _ => .refl _
  | a :: r, k + 1, h => (List.Perm.swap a (r[k]'(Nat.lt_of_succ_lt_succ h)) (r.eraseIdx k)).trans (.cons a (erase_perm r k (Nat.lt_of_succ_lt_succ h)))
theorem perm_pop {got rem : List Str} {k : Nat} (h : k < rem.length) : ((got ++ [rem[k]]) ++ rem.eraseIdx k).Perm (got ++ rem) := by
  rw [List.append_assoc]
  exact List.Perm.append_left got (erase_perm rem k h)
section
variable {P : Program} {w : World} {K : PySem.W.Frag} {mg : Str → Option Value} {base : Heap}
theorem scHeads : FnScope ["_law_jug_here", "_law_most_here", "_law_pool", "_law_found", "_law_k"] ["_law_jug_here", "_law_most_here"] (defScope sHeads) := ⟨rfl, rfl, rfl, by decide +kernel, rfl, by decide +kernel, by decide +kernel⟩
theorem ok_heads {f fS : Addr} {fd fdS : FuncData} (F : Fun K "_law_heads" "_law_heads" sHeads f fd) (T : TB mg) (DS : DefAt K mg "_law_sip" ["_law_jug_here", "_law_most"] sSip fS fdS) :
    FnOk P w K mg base CX0 2 f fd ["_law_jug_here", "_law_most_here"] spHeads := by
  have GS : FnOk P w K mg base CX0 1 fS fdS ["_law_jug_here", "_law_most"] spSip := ok_sip DS.fn T
  refine F.ok scHeads (fun vs G Z E h => ?_) (fun cdv A out st G vs Z E hr h => ?_)
  · obtain ⟨j, m, rfl, _⟩ := h
    rfl
  · obtain ⟨j, m, rfl, hj, m0, m8, fin⟩ := h
    refine ⟨_, pss_cons (ps_par (i := 2) (j := 3) (by rfl) scHeads.nd rfl rfl (by decide) rfl rfl
        (pa_cons (pe_lst (pa_cons pe_str (pa_cons pe_str (pa_cons pe_str (pa_cons pe_str (pa_cons pe_str (pa_cons pe_str (pa_cons pe_str (pa_cons pe_str pa_nil))))))))) (pa_cons (pe_lst pa_nil) pa_nil)) (by rfl))
      (pss_cons (ps_for PassesOwn.never rfl (pi_range1 rfl T.rng (pa_cons (pe_op op_add pe_int (pe_call GS hr rfl DS.gl DS.kp DS.bd .nil pass0 (pa_cons (pv 0) (pa_cons (pv 1) pa_nil)))) pa_nil))
          (pg_name (i := 4) scHeads.nd rfl (Or.inl rfl))
          (pss_one (ps_expr (pe_bm PySem.F.plainAttrs_list PySem.F.slot_list_append PySem.F.type_list_append mt_append (pv 3)
            (pa_cons (pe_bm PySem.F.plainAttrs_list PySem.F.slot_list_pop PySem.F.type_list_pop mt_popAt (pv 2)
              (pa_cons (pe_call GS hr rfl DS.gl DS.kp DS.bd .nil pass0 (pa_cons (pv 0) (pa_cons (pe_callB call_len_seq (by rfl) T.len PySem.boot_len (pa_cons (pv 2) pa_nil)) pa_nil))) pa_nil)) pa_nil)))))
      (pss_one (ps_ret (pe_callTy call_tuple_of (by rfl) T.tup boot_tuple (pa_cons (pv 3) pa_nil))))), ?_⟩
    refine ⟨by show 8 ≤ sizeLine; decide, fun l hl => ⟨Nat.zero_le _, fun d hd => ⟨_, _, rfl, ?_⟩⟩⟩
    have ld : l ≠ d := fun e => by
      rw [← e, upd_same] at hd
      cases hd
    have hd0 : G d = Option.none := by
      rw [upd_ne ld.symm] at hd
      exact hd
    have lj : l ≠ j := hj.ne hl
    have dj : d ≠ j := hj.ne hd0
    refine ⟨_, rfl, _, rfl, j, m, rfl, (hj.new hl).new hd, m0, by omega, fun G1 r r0 r1 hj1 g1 => ⟨_, _, rfl, rfl, _, rfl, by omega, by omega, ?_⟩⟩
    refine for_range (lo := 0) (n := (1 + r).toNat) (fun i σ G' => ∃ (got rem : List Str) (v : Option V), σ = [some (.ref j), some (.int m), some (.ref l), some (.ref d), v] ∧
        G' l = some (.lst (rem.map V.str)) ∧ G' d = some (.lst (got.map V.str)) ∧ (got ++ rem).Perm pool0 ∧ got.length = i ∧ Jug G' j ∧ Grow j G G') ?_ ?_ ?_
    · refine ⟨[], pool0, _, rfl, ?_, ?_, .refl _, rfl, hj1, ((((Grow.refl j G).new hl).new hd).trans g1)⟩
      · exact g1 _ _ lj (by rw [upd_ne ld]; exact upd_same)
      · exact g1 _ _ dj upd_same
    · rintro i σ G2 hi ⟨got, rem, v, rfl, el, ed, pm, gl, hj2, g2⟩
      have tot : got.length + rem.length = 8 := by
        rw [← List.length_append, pm.length_eq]
        rfl
      refine ⟨_, rfl, .inl ⟨rfl, _, SqL.of ed⟩, _, rfl, .inl ⟨rfl, _, SqL.of el⟩, _, rfl, _, rfl, l, _, rfl, .inl (SqL.of el), j, _, rfl, hj2, ?_, ?_, fun G3 q q0 q1 hj3 g3 => ?_⟩
      · rw [List.length_map]
        omega
      · rw [List.length_map]
        omega
      · rw [List.length_map] at q1
        have lt : q.toNat < rem.length := by omega
        have el3 := g3 _ _ lj el
        have ed3 := g3 _ _ dj ed
        refine ⟨l, _, q, q.toNat, .str rem[q.toNat], rfl, rfl, el3, by omega, by omega, ?_, by simp [lt], ?_⟩
        · unfold seqIndex?
          rw [List.length_map]
          simp
          omega
        · refine ⟨d, _, _, rfl, rfl, by rw [upd_ne ld.symm]; exact ed3, ?_, ?_⟩
          · rw [List.length_map]
            exact small1000 (by omega)
          · refine ⟨got ++ [rem[q.toNat]], rem.eraseIdx q.toNat, _, rfl, ?_, ?_, (perm_pop lt).trans pm, by simp [gl], ?_, ?_⟩
            · rw [upd_ne ld, upd_same, erase_map]
            · rw [upd_same, List.map_append]
              rfl
            · obtain ⟨a, b, c, e, bb⟩ := hj3
              exact ⟨a, b, c, by rw [upd_ne dj.symm, upd_ne lj.symm]; exact e, bb⟩
            · exact ((g2.trans g3).put hl).put hd0
    · rintro σ G2 ⟨got, rem, v, rfl, el, ed, pm, gl, hj2, g2⟩
      refine ⟨_, rfl, d, _, rfl, .inl ⟨SqL.of ed, fun t ht => ?_⟩⟩
      have nd : (got ++ rem).Nodup := pm.nodup_iff.mpr pool_nodup
      refine fin _ t got ⟨?_, (List.nodup_append.mp nd).1, fun x hx => pm.mem_iff.mp (List.mem_append_left _ hx)⟩ ?_ (g2.free (hj2.ne ht) ht) upd_same (hj2.new ht) (g2.new ht)
      · intro e
        rw [e] at gl
        have : (0 : Nat) = (1 + r).toNat := gl
        omega
      · rw [gl]
        omega
end
end Fs

namespace Fs
open PySem PySem.Spec PyProof.Rows L2
abbrev sRoads : Stmt := (top 24)
/-- a tie as it lies: where its tuple stands, and its two parts -/
abbrev Tie := Addr × Str × Str
def TieOk (G : Hp) (e : Tie) : Prop := G e.1 = some (.tup [.str e.2.1, .str e.2.2])
def refs (L : List Tie) : List V := L.map fun e => V.ref e.1
def Roads (xs : List Str) (L : List Tie) : Prop := (L.map (·.2)).Nodup ∧ ∀ e ∈ L, e.2.1 ∈ xs ∧ e.2.2 ∈ xs ∧ e.2.1 ≠ e.2.2
def spRoads : Sp := fun vs G Z _ => ∃ (j p : Addr) (xs : List Str), vs = [.ref j, .ref p] ∧ Jug G j ∧ G p = some (.tup (xs.map V.str)) ∧ xs.Nodup ∧ xs.length ≤ 8 ∧
  ∀ (G' : Hp) (q : Addr) (L : List Tie), Roads xs L → L.length ≤ 64 → G q = none → G' q = some (.tup (refs L)) → (∀ e ∈ L, TieOk G' e) → Jug G' j → Grow j G G' → Z (.ref q) G'
/-- all ties so far are of places ahead of (k, n) -/
def Ahead (xs : List Str) (k n : Nat) (L : List Tie) : Prop := (L.map (·.2)).Nodup ∧
  ∀ e ∈ L, ∃ a b : Nat, xs[a]? = some e.2.1 ∧ xs[b]? = some e.2.2 ∧ a ≠ b ∧ (a < k ∨ (a = k ∧ b < n))
theorem Ahead.mono {xs : List Str} {k n k' n' : Nat} {L : List Tie} (h : Ahead xs k n L) (le : ∀ a b : Nat, a < xs.length → b < xs.length → (a < k ∨ (a = k ∧ b < n)) → (a < k' ∨ (a = k' ∧ b < n'))) : Ahead xs k' n' L :=
  ⟨h.1, fun e he => let ⟨a, b, h1, h2, h3, h4⟩ := h.2 e he; ⟨a, b, h1, h2, h3, le a b (List.getElem?_eq_some_iff.mp h1).1 (List.getElem?_eq_some_iff.mp h2).1 h4⟩⟩
theorem ins_perm {α : Type} (L : List α) (i : Nat) (y : α) : (L.take i ++ [y] ++ L.drop i).Perm (y :: L) := by
  rw [List.append_assoc]
  refine (List.perm_middle (l₁ := L.take i) (a := y) (l₂ := L.drop i)).trans ?_
  rw [List.take_append_drop]
theorem Ahead.put {xs : List Str} {k n i : Nat} {L : List Tie} {t : Addr} (h : Ahead xs k n L) (nd : xs.Nodup) (hk : k < xs.length) (hn : n < xs.length) (ne : k ≠ n) :
    Ahead xs k (n + 1) (L.take i ++ [(t, xs[k], xs[n])] ++ L.drop i) := by
  have pm := ins_perm L i (t, xs[k], xs[n])
  refine ⟨?_, fun e he => ?_⟩
  · refine (pm.map (·.2)).nodup_iff.mpr (List.nodup_cons.mpr ⟨fun m => ?_, h.1⟩)
    obtain ⟨e, he, ee⟩ := List.mem_map.mp m
    obtain ⟨a, b, h1, h2, _, h4⟩ := h.2 e he
    have e1 : e.2.1 = xs[k] := congrArg Prod.fst ee
    have e2 : e.2.2 = xs[n] := congrArg Prod.snd ee
    have ak : a = k := nd_ix nd h1 (by rw [e1]; simp [hk])
    have bn : b = n := nd_ix nd h2 (by rw [e2]; simp [hn])
    omega
  · rcases List.mem_cons.mp (pm.mem_iff.mp he) with rfl | he
    · exact ⟨k, n, by simp [hk], by simp [hn], ne, .inr ⟨rfl, Nat.lt_succ_self _⟩⟩
    · obtain ⟨a, b, h1, h2, h3, h4⟩ := h.2 e he
      exact ⟨a, b, h1, h2, h3, by omega⟩
theorem Ahead.roads {xs : List Str} {k n : Nat} {L : List Tie} (h : Ahead xs k n L) (nd : xs.Nodup) : Roads xs L :=
  ⟨h.1, fun e he => by
    obtain ⟨a, b, h1, h2, h3, _⟩ := h.2 e he
    refine ⟨List.mem_of_getElem? h1, List.mem_of_getElem? h2, fun q => h3 (nd_ix nd h1 (q ▸ h2))⟩⟩
theorem TieOk.mono {G G' : Hp} {j : Addr} {e : Tie} (h : TieOk G e) (hj : Jug G j) (g : Grow j G G') : TieOk G' e := g _ _ (hj.ne_tup h) h
section
variable {P : Program} {w : World} {K : PySem.W.Frag} {mg : Str → Option Value} {base : Heap}
theorem scRoads : FnScope ["_law_jug_here", "_law_heads_here", "_law_size", "_law_dense", "_law_found", "_law_k", "_law_j"] ["_law_jug_here", "_law_heads_here"] (defScope sRoads) := ⟨rfl, rfl, rfl, by decide +kernel, rfl, by decide +kernel, by decide +kernel⟩
theorem ok_roads {f fS : Addr} {fd fdS : FuncData} (F : Fun K "_law_roads" "_law_roads" sRoads f fd) (T : TB mg) (DS : DefAt K mg "_law_sip" ["_law_jug_here", "_law_most"] sSip fS fdS) :
    FnOk P w K mg base CX0 2 f fd ["_law_jug_here", "_law_heads_here"] spRoads := by
  have GS : FnOk P w K mg base CX0 1 fS fdS ["_law_jug_here", "_law_most"] spSip := ok_sip DS.fn T
  refine F.ok scRoads (fun vs G Z E h => ?_) (fun cdv A out st G vs Z E hr h => ?_)
  · obtain ⟨j, p, xs, rfl, _⟩ := h
    rfl
  · obtain ⟨j, p, xs, rfl, hj, hp, nd, few, fin⟩ := h
    refine ⟨_, pss_cons (ps_par3 (i := 2) (j := 3) (l := 4) (by rfl) scRoads.nd rfl rfl rfl (by decide) (by decide) (by decide) rfl rfl rfl
        (pa_cons (pe_callB call_len_seq (by rfl) T.len PySem.boot_len (pa_cons (pv 1) pa_nil)) (pa_cons (pe_call GS hr rfl DS.gl DS.kp DS.bd .nil pass0 (pa_cons (pv 0) (pa_cons pe_int pa_nil))) (pa_cons (pe_lst pa_nil) pa_nil))) (by rfl))
      (pss_cons (ps_for PassesOwn.never rfl (pi_range1 rfl T.rng (pa_cons (pv 2) pa_nil)) (pg_name (i := 5) scRoads.nd rfl (Or.inl rfl))
          (pss_one (ps_for PassesOwn.never rfl (pi_range1 rfl T.rng (pa_cons (pv 2) pa_nil)) (pg_name (i := 6) scRoads.nd rfl (Or.inl rfl))
            (pss_one (ps_if (PW.pt (pw_and (pt_cmpR op_ne (pv 5) (pv 6) (nomark _)) (pw_and1 (pt_cmpR op_eq (pe_call GS hr rfl DS.gl DS.kp DS.bd .nil pass0 (pa_cons (pv 0)
                  (pa_cons (pe_ix ix_list (pe_lst (pa_cons pe_int (pa_cons pe_int (pa_cons pe_int (pa_cons pe_int pa_nil))))) (pv 3) (fun _ _ => rfl)) pa_nil))) pe_int (nomark _)))))
                (pss_one (ps_expr (pe_bm PySem.F.plainAttrs_list PySem.F.slot_list_insert PySem.F.type_list_insert mt_insert (pv 4)
                  (pa_cons (pe_call GS hr rfl DS.gl DS.kp DS.bd .nil pass0 (pa_cons (pv 0) (pa_cons (pe_op op_add (pe_callB call_len_seq (by rfl) T.len PySem.boot_len (pa_cons (pv 4) pa_nil)) pe_int) pa_nil)))
                    (pa_cons (pe_tup (pa_cons (pe_ix ix_tup (pv 1) (pv 5) (fun _ _ => rfl)) (pa_cons (pe_ix ix_tup (pv 1) (pv 6) (fun _ _ => rfl)) pa_nil))) pa_nil))))) pss_nil)))))
      (pss_one (ps_ret (pe_callTy call_tuple_of (by rfl) T.tup boot_tuple (pa_cons (pv 4) pa_nil))))), ?_⟩
    have pj : p ≠ j := hj.ne_tup hp
    refine ⟨_, rfl, p, _, rfl, .inr (SqT.of hp), _, rfl, j, _, rfl, hj, by decide, by decide, fun G1 s s0 s1 hj1 g1 => ⟨Nat.zero_le _, fun d hd1 => ⟨_, _, _, rfl, ?_⟩⟩⟩
    have dj : d ≠ j := hj1.ne hd1
    have hd : G d = Option.none := g1.free dj hd1
    have lenx : ((xs.map V.str).length : Int) = xs.length := by rw [List.length_map]
    refine ⟨_, rfl, _, rfl, by rw [lenx]; omega, by rw [lenx]; omega, ?_⟩
    rw [lenx]
    refine for_range (lo := 0) (n := (xs.length : Int).toNat) (fun k σ G' => ∃ (L : List Tie) (v1 v2 : Option V), σ = [some (.ref j), some (.ref p), some (.int xs.length), some (.int s), some (.ref d), v1, v2] ∧
        G' d = some (.lst (refs L)) ∧ (∀ e ∈ L, TieOk G' e) ∧ Ahead xs k 0 L ∧ L.length ≤ k * 8 ∧ Jug G' j ∧ Grow j G G') ?_ ?_ ?_
    · exact ⟨[], _, _, by rw [← lenx]; rfl, upd_same, fun _ m => (List.not_mem_nil m).elim, ⟨List.nodup_nil, fun _ m => (List.not_mem_nil m).elim⟩, Nat.zero_le _, hj1.new hd1, g1.new hd1⟩
    · rintro k σ G2 hk ⟨L, v1, v2, rfl, ed, ties, ah, len, hj2, g2⟩
      refine ⟨_, rfl, _, rfl, by omega, by omega, ?_⟩
      refine for_range (lo := 0) (n := (xs.length : Int).toNat) (fun n σ G' => ∃ (L : List Tie) (v2 : Option V), σ = [some (.ref j), some (.ref p), some (.int xs.length), some (.int s), some (.ref d), some (.int (0 + (k : Int))), v2] ∧
        G' d = some (.lst (refs L)) ∧ (∀ e ∈ L, TieOk G' e) ∧ Ahead xs k n L ∧ L.length ≤ k * 8 + n ∧ Jug G' j ∧ Grow j G G') ?_ ?_ ?_
      · exact ⟨L, _, rfl, ed, ties, ah, len, hj2, g2⟩
      · rintro n σ G3 hn ⟨L, v2, rfl, ed, ties, ah, len, hj3, g3⟩
        have kl : k < xs.length := by omega
        have nl : n < xs.length := by omega
        have step : Ahead xs k (n + 1) L := ah.mono fun a b _ _ q => by omega
        refine ⟨_, rfl, _, rfl, rfl, _, rfl, ?_⟩
        by_cases same : k = n
        · have q : (!decide (V.int (0 + (k : Int)) = V.int (0 + (n : Int)))) = false := by
            rw [same]
            simp
          show if (!decide (V.int (0 + (k : Int)) = V.int (0 + (n : Int)))) = true then _ else _
          rw [q]
          exact iteF ⟨L, _, rfl, ed, ties, step, by omega, hj3, g3⟩
        · have q : (!decide (V.int (0 + (k : Int)) = V.int (0 + (n : Int)))) = true := by
            have ne : ¬ (V.int (0 + (k : Int)) = V.int (0 + (n : Int))) := fun e => by
              have e' : (0 + (k : Int)) = 0 + (n : Int) := V.int.inj e
              omega
            rw [decide_eq_false ne]
            rfl
          show if (!decide (V.int (0 + (k : Int)) = V.int (0 + (n : Int)))) = true then _ else _
          rw [q]
          refine iteT ⟨_, rfl, by show 4 ≤ sizeLine; decide, fun r hr3 => ?_⟩
          have pick : ∃ z : Int, atI [V.int 2, V.int 3, V.int 5, V.int 8] s = some (V.int z) ∧ 0 < z ∧ z < 1000 := by
            have : s = 0 ∨ s = 1 ∨ s = 2 ∨ s = 3 := by omega
            rcases this with rfl | rfl | rfl | rfl
            · exact ⟨2, rfl, by decide, by decide⟩
            · exact ⟨3, rfl, by decide, by decide⟩
            · exact ⟨5, rfl, by decide, by decide⟩
            · exact ⟨8, rfl, by decide, by decide⟩
          obtain ⟨z, hz, z0, z1⟩ := pick
          refine ⟨_, rfl, r, _, _, _, rfl, rfl, SqL.of upd_same, hz, j, _, rfl, hj3.new hr3, z0, z1, fun G4 u u0 u1 hj4 g4 => ?_⟩
          have g34 : Grow j G3 G4 := ((Grow.refl j G3).new hr3).trans g4
          have ed4 := g34 _ _ dj ed
          refine ⟨rfl, _, rfl, ite2 (fun _ => ?_) (fun _ => ?_)⟩
          · refine ⟨_, rfl, .inl ⟨rfl, _, SqL.of ed4⟩, _, rfl, _, rfl, d, _, rfl, .inl (SqL.of ed4), _, _, rfl, rfl, j, _, rfl, hj4, ?_, ?_, fun G5 i i0 i1 hj5 g5 => ?_⟩
            · omega
            · unfold refs
              rw [List.length_map]
              omega
            · have g35 : Grow j G3 G5 := g34.trans g5
              have ed5 := g35 _ _ dj ed
              have hp5 := (g3.trans g35) _ _ pj hp
              have hpk : atI (xs.map V.str) (0 + (k : Int)) = some (V.str xs[k]) := by
                rw [Int.zero_add]
                exact atI_nat (by simp [kl])
              have hpn : atI (xs.map V.str) (0 + (n : Int)) = some (V.str xs[n]) := by
                rw [Int.zero_add]
                exact atI_nat (by simp [nl])
              refine ⟨_, rfl, _, rfl, p, _, _, _, rfl, rfl, SqT.of hp5, hpk, _, rfl, _, rfl, p, _, _, _, rfl, rfl, SqT.of hp5, hpn, by show 2 ≤ sizeLine; decide, fun t ht => ?_⟩
              have dt : d ≠ t := ne_of_none ed5 ht
              refine ⟨d, _, i, _, rfl, rfl, by rw [upd_ne dt]; exact ed5, ?_, i0, ?_, ?_⟩
              · unfold refs
                rw [List.length_map]
                exact small1000 (by omega)
              · have : (refs L).length = L.length := List.length_map _
                omega
              · refine ⟨L.take i.toNat ++ [(t, xs[k], xs[n])] ++ L.drop i.toNat, _, rfl, ?_, fun e he => ?_, ah.put nd kl nl same, ?_, ?_, ?_⟩
                · rw [upd_same]
                  unfold refs
                  simp [List.map_take, List.map_drop]
                · rcases List.mem_cons.mp ((ins_perm L i.toNat _).mem_iff.mp he) with rfl | he
                  · show upd (upd G5 t _) d _ t = _
                    rw [upd_ne dt.symm, upd_same]
                  · have q5 : TieOk G5 e := (ties e he).mono hj3 g35
                    have n1 : e.1 ≠ d := ne_of q5 ed5 nofun
                    have n2 : e.1 ≠ t := ne_of_none q5 ht
                    show upd (upd G5 t _) d _ e.1 = _
                    rw [upd_ne n1, upd_ne n2]
                    exact q5
                · rw [(ins_perm L i.toNat _).length_eq]
                  simp only [List.length_cons]
                  omega
                · obtain ⟨a, b, c, e, bb⟩ := hj5
                  exact ⟨a, b, c, by rw [upd_ne dj.symm, upd_ne (ne_of_none e ht)]; exact e, bb⟩
                · exact ((g3.trans g35).new ht).put hd
          · exact ⟨L, _, rfl, ed4, fun e he => (ties e he).mono hj3 g34, step, by omega, hj4, g3.trans g34⟩
      · rintro σ G3 ⟨L, v2, rfl, ed, ties, ah, len, hj3, g3⟩
        exact ⟨L, _, _, rfl, ed, ties, ah.mono fun a b _ hb q => by omega, by omega, hj3, g3⟩
    · rintro σ G2 ⟨L, v1, v2, rfl, ed, ties, ah, len, hj2, g2⟩
      refine ⟨_, rfl, d, _, rfl, .inl ⟨SqL.of ed, fun t ht => ?_⟩⟩
      exact fin _ t L (ah.roads nd) (by omega) (g2.free (hj2.ne ht) ht) upd_same (fun e he => by
        show upd G2 t _ e.1 = _
        rw [upd_ne (ne_of_none (ties e he) ht)]
        exact ties e he) (hj2.new ht) (g2.new ht)
end
end Fs

namespace Fs
open PySem PySem.Spec PyProof.Rows L2
abbrev sName : Stmt := (top 13)
abbrev sAmong : Stmt := (top 14)
def letterS : Str := "abcdefghijklmnopqrstuvwxyz"
def signS : Str := "abcdefghijklmnopqrstuvwxyz0123456789"
/-- what a name is, over the codes of a text -/
def nameL : List Nat → Bool
  | [] => false
  | c :: r => decide (r.length < 8) && (decide (c ∈ letterS.cps.toList) && (c :: r).all fun d => decide (d ∈ signS.cps.toList))
def nameV : V → Bool
  | .str z => nameL z.cps.toList
  | _ => false
def amongV (v : V) (xs : List Str) : Bool := match v with
  | .str z => decide (z ∈ xs)
  | _ => false
/-- a value of which it is known whether it is a text -/
def StrOr (K : PySem.W.Frag) (G : Hp) (v : V) : Prop := (∃ z : Str, v = .str z ∧ z.length ≤ 100000) ∨
  ((∀ z : Str, v ≠ .str z) ∧ ∃ t, TyX K G v t ∧ PySem.W.kitOne K t (.type "str") = some false)
theorem StrOr.name {K : PySem.W.Frag} {G : Hp} {v : V} (h : (∀ z : Str, v ≠ .str z)) : nameV v = false := by
  cases v with
  | str z => exact absurd rfl (h z)
  | _ => rfl
theorem StrOr.among {v : V} {xs : List Str} (h : (∀ z : Str, v ≠ .str z)) : amongV v xs = false := by
  cases v with
  | str z => exact absurd rfl (h z)
  | _ => rfl
structure TN (mg : Str → Option Value) : Prop where
  isi : mg "isinstance" = none
  str : mg "str" = none
  len : mg "len" = none
  all : mg "all" = none
  letters : ∃ t, mg "_LETTERS" = some (.str letterS t)
  signs : ∃ t, mg "_SIGNS" = some (.str signS t)
  most : ∃ t, mg "_MOST_SIGNS" = some (.int 8 t)
def spName (K : PySem.W.Frag) : Sp := fun vs G Z _ => ∃ v, vs = [v] ∧ StrOr K G v ∧ ∀ G', Same G G' → Z (.bl (nameV v)) G'
def spAmong (K : PySem.W.Frag) : Sp := fun vs G Z _ => ∃ v p xs, vs = [v, .ref p] ∧ StrOr K G v ∧ SqT K G p (xs.map V.str) ∧ Z (.bl (amongV v xs)) G
theorem inV_str {z : Str} : ∀ {xs : List Str}, inV (.str z) (xs.map V.str) = decide (z ∈ xs)
  | [] => rfl
  | x :: r => by
    have ih := inV_str (z := z) (xs := r)
    show (x == z || inV (.str z) (r.map V.str)) = _
    rw [ih]
    by_cases e : x = z
    · simp [e]
    · have e2 : ¬ z = x := fun q => e q.symm
      simp [e, e2]
theorem flat_strs : ∀ (xs : List Str), (xs.map V.str).all flatV = true
  | [] => rfl
  | x :: r => flat_strs r
section
variable {P : Program} {w : World} {K : PySem.W.Frag} {mg : Str → Option Value} {base : Heap}
theorem scName : FnScope ["value", "sign"] ["value"] (defScope sName) := ⟨rfl, rfl, rfl, by decide +kernel, rfl, by decide +kernel, by decide +kernel⟩
theorem ok_name {f : Addr} {fd : FuncData} (F : Fun K "is_name" "is_name" sName f fd) (T : TN mg) : FnOk P w K mg base CX0 1 f fd ["value"] (spName K) := by
  obtain ⟨t1, e1⟩ := T.letters
  obtain ⟨t2, e2⟩ := T.signs
  obtain ⟨t3, e3⟩ := T.most
  refine F.ok scName (fun vs G Z E h => ?_) (fun cdv A out st G vs Z E hr h => ?_)
  · obtain ⟨v, rfl, _⟩ := h
    rfl
  · obtain ⟨v, rfl, hv, fin⟩ := h
    refine ⟨_, pss_cons (ps_if (PW.pt (pw_or (pt_not (pt_val (pe_callB call_isi (by rfl) T.isi boot_isinstance (pa_cons (pv 0) (pa_cons (pe_bltn (v := .ty "str") (by rfl) T.str boot_str rfl) pa_nil)))))
          (pw_or1 (pt_not (pt_chain op_le op_le pe_int (pe_callB call_len_str (by rfl) T.len PySem.boot_len (pa_cons (pv 0) pa_nil)) (pe_glob (v := .int 8) rfl e3 ⟨_, rfl⟩))))))
        (pss_one (ps_ret pe_bl)) pss_nil)
      (pss_one (ps_ret (pe_and (pe_cmpR op_in_sign (pe_ix ix_str (pv 0) pe_int (fun _ _ => rfl)) (pe_glob (v := .str letterS) rfl e1 ⟨_, rfl⟩) rfl)
        (pe_one (pe_callB (cr_all rfl) (by rfl) T.all boot_all (pa_cons (pe_lc (own := [("sign", 1)]) (g := gName 1) (tt := tYes) rfl scName.nd (pi_str (pv 0)) (blkOk_by (N := ["value", "sign"]) (sc := defScope sName) (by decide +kernel))
          (fun _ _ _ _ _ => pg_name (i := 1) scName.nd rfl (Or.inl rfl)) (fun _ _ _ _ _ => pts_nil) (fun _ _ _ _ _ => pe_cmpR op_in_sign (pv 1) (pe_glob (v := .str signS) rfl e2 ⟨_, rfl⟩) rfl)) pa_nil)))))), ?_⟩
    rcases hv with ⟨z, rfl, hz⟩ | ⟨no, t, ty, hk⟩
    · refine ⟨_, rfl, _, _, _, _, true, rfl, .ty _, .base (.str z), kit_ty (by decide +kernel), _, rfl, ?_⟩
      have fin' : ∀ (b : Bool) (G' : Hp), nameL z.cps.toList = b → Same G G' → Z (.bl b) G' := fun b G' q s => by
        have e := fin G' s
        rw [show nameV (.str z) = b from q] at e
        exact e
      have size : z.length = z.cps.toList.length := by
        show z.cps.size = _
        rw [Array.length_toList]
      refine iteF ⟨_, rfl, z, rfl, Nat.le_trans hz (by decide), _, _, rfl, rfl, _, rfl, ?_⟩
      refine ite2 (fun c => ?_) (fun c => ?_)
      · refine ⟨_, _, rfl, rfl, _, rfl, ?_⟩
        have c1 : (1 : Int) ≤ z.length := of_decide_eq_true c
        by_cases d : (z.length : Int) ≤ 8
        · rw [decide_eq_true d]
          refine iteF ?_
          obtain ⟨h, r, hr2⟩ : ∃ h r, z.cps.toList = h :: r := by
            cases e : z.cps.toList with
            | nil =>
              rw [e] at size
              simp at size
              omega
            | cons h r => exact ⟨h, r, rfl⟩
          have lt8 : r.length < 8 := by
            rw [hr2] at size
            simp at size
            omega
          refine ⟨_, rfl, _, _, h, rfl, rfl, Nat.le_trans hz (by decide), by rw [hr2]; exact atI_nat (j := 0) rfl, h, letterS, rfl, rfl, _, rfl, ?_⟩
          refine ite2 (fun e => ?_) (fun e => ?_)
          · refine ⟨_, rfl, z, rfl, fun D hD => ?_⟩
            refine lc_it walk_str (fun i G' => G' = upd G D (.lst ((z.cps.toList.take i).map fun c => V.bl (decide (c ∈ signS.cps.toList))))) rfl (fun _ _ _ _ => trivial) ?_ ?_
            · rintro i x _ G' hi rfl ⟨rfl, c, hc, rfl⟩
              refine ⟨rfl, _, rfl, c, signS, rfl, rfl, _, upd_same, ?_, ?_⟩
              · rw [List.length_map, List.length_take]
                exact small1000 (by omega)
              · have hc' : z.cps.toList[i]? = some c := by simpa using hc
                have tk : z.cps.toList.take (i + 1) = z.cps.toList.take i ++ [c] := by
                  rw [List.take_succ, hc']
                  rfl
                rw [upd_upd, tk, List.map_append]
                rfl
            · rintro _ rfl
              refine ⟨_, z.cps.toList.map fun c => decide (c ∈ signS.cps.toList), rfl, ?_, fin' _ _ ?_ ((Same.refl G).new hD)⟩
              · refine SqL.of ?_
                rw [upd_same, List.map_map, ← Array.length_toList, List.take_length]
                rfl
              · have e' : decide (h ∈ letterS.cps.toList) = true := e
                rw [hr2]
                show (decide (r.length < 8) && (decide (h ∈ letterS.cps.toList) && _)) = _
                rw [decide_eq_true lt8, e', List.all_map]
                rfl
          · refine fin' false G ?_ (Same.refl G)
            rw [hr2]
            have q : decide (h ∈ letterS.cps.toList) = false := by
              cases q : decide (h ∈ letterS.cps.toList) with
              | true => exact absurd q e
              | false => rfl
            show (decide (r.length < 8) && (decide (h ∈ letterS.cps.toList) && _)) = _
            rw [q, Bool.false_and, Bool.and_false]
        · rw [decide_eq_false d]
          refine iteT (fin' false G ?_ (Same.refl G))
          cases e : z.cps.toList with
          | nil => rfl
          | cons h r =>
            rw [e] at size
            have q : decide (r.length < 8) = false := decide_eq_false (by simp at size; omega)
            show (decide (r.length < 8) && _) = false
            rw [q]
            rfl
      · refine ⟨_, rfl, iteT (fin' false G ?_ (Same.refl G))⟩
        cases e : z.cps.toList with
        | nil => rfl
        | cons h r =>
          rw [e] at size
          have : ¬ (1 : Int) ≤ z.length := fun q => c (decide_eq_true q)
          simp at size
          omega
    · refine ⟨_, rfl, _, _, _, _, false, rfl, .ty _, ty, hk, _, rfl, ?_⟩
      refine iteT ?_
      have e := fin G (Same.refl G)
      rw [StrOr.name (K := K) (G := G) no] at e
      exact e
theorem scAmong : FnScope ["value", "names"] ["value", "names"] (defScope sAmong) := ⟨rfl, rfl, rfl, by decide +kernel, rfl, by decide +kernel, by decide +kernel⟩
theorem ok_among {f : Addr} {fd : FuncData} (F : Fun K "is_among" "is_among" sAmong f fd) (T : TN mg) : FnOk P w K mg base CX0 1 f fd ["value", "names"] (spAmong K) := by
  refine F.ok scAmong (fun vs G Z E h => ?_) (fun cdv A out st G vs Z E hr h => ?_)
  · obtain ⟨v, p, xs, rfl, _⟩ := h
    rfl
  · obtain ⟨v, p, xs, rfl, hv, hp, fin⟩ := h
    refine ⟨_, pss_one (ps_ret (pe_and (pe_callB call_isi (by rfl) T.isi boot_isinstance (pa_cons (pv 0) (pa_cons (pe_bltn (v := .ty "str") (by rfl) T.str boot_str rfl) pa_nil)))
      (pe_one (pe_cmpR op_in_seq (pv 0) (pv 1) rfl)))), ?_⟩
    rcases hv with ⟨z, rfl, hz⟩ | ⟨no, t, ty, hk⟩
    · refine ⟨_, rfl, _, _, _, _, true, rfl, .ty _, .base (.str z), kit_ty (by decide +kernel), _, rfl, iteT ⟨_, rfl, _, rfl, p, _, rfl, .inr hp, rfl, flat_strs xs, ?_⟩⟩
      show Z (.bl (inV (.str z) (xs.map V.str))) G
      rw [inV_str]
      exact fin
    · refine ⟨_, rfl, _, _, _, _, false, rfl, .ty _, ty, hk, _, rfl, iteF ?_⟩
      rw [StrOr.among no] at fin
      exact fin
end
end Fs

namespace Fs
open PySem PySem.Spec PyProof.Rows L2
abbrev sParts : Stmt := (top 17)
abbrev sPair : Stmt := (top 15)
abbrev sTies : Stmt := (top 18)
/-- right parts -/
def Valid (xs : List Str) : Prop := xs ≠ [] ∧ xs.length ≤ 8 ∧ xs.Nodup ∧ ∀ x ∈ xs, nameL x.cps.toList = true
theorem name_small {z : Str} (h : nameL z.cps.toList = true) : z.length ≤ 8 := by
  have size : z.length = z.cps.toList.length := by
    show z.cps.size = _
    rw [Array.length_toList]
  rw [size]
  cases e : z.cps.toList with
  | nil => exact Nat.zero_le _
  | cons c r =>
    rw [e] at h
    have h' : (decide (r.length < 8) && _) = true := h
    have := of_decide_eq_true (Bool.and_eq_true_iff.mp h').1
    rw [List.length_cons]
    omega
theorem name_ascii {z : Str} (h : nameL z.cps.toList = true) : ∀ c ∈ z.cps.toList, c < 128 := by
  intro c hc
  cases e : z.cps.toList with
  | nil =>
    rw [e] at hc
    exact (List.not_mem_nil hc).elim
  | cons d r =>
    rw [e] at h hc
    have h' : (decide (r.length < 8) && (decide (d ∈ letterS.cps.toList) && (d :: r).all fun x => decide (x ∈ signS.cps.toList))) = true := h
    have h2 := (Bool.and_eq_true_iff.mp (Bool.and_eq_true_iff.mp h').2).2
    have h3 : c ∈ signS.cps.toList := of_decide_eq_true (List.all_eq_true.mp h2 c hc)
    have all : signS.cps.toList.all (fun x => decide (x < 128)) = true := by decide +kernel
    exact of_decide_eq_true (List.all_eq_true.mp all c h3)
theorem name_lay {z : Str} (h : nameL z.cps.toList = true) : PyData.canLay0 (.str z) = true := by
  show z.cps.all _ = true
  rw [← Array.all_toList, List.all_eq_true]
  intro c hc
  have := name_ascii h c hc
  exact decide_eq_true (by omega)
theorem heads_valid {xs : List Str} (h : Heads xs) (few : xs.length ≤ 8) : Valid xs :=
  ⟨h.1, few, h.2.1, fun x hx => by
    have all : pool0.all (fun x => nameL x.cps.toList) = true := by decide +kernel
    exact List.all_eq_true.mp all x (h.2.2 x hx)⟩
theorem sl_take {K : PySem.W.Frag} {G : Hp} {a : Addr} {xs : List V} {i : Nat} {Z : VK} (h : SqT K G a xs) (hi : i ≤ xs.length)
    (k : ∀ p G', Same G G' → SqT K G' p (xs.take i) → Z (.ref p) G') : rSlA K (.ref a) none (some (i : Int)) G Z := by
  have e1 : HT.sIx xs.length xs.length (some (i : Int)) = i := by
    rw [HT.sIx_nat]
    exact Nat.min_eq_left hi
  have e2 : cutV xs none (some (i : Int)) = xs.take i := by
    unfold cutV
    rw [e1, HT.sIx_none, List.drop_zero, Nat.sub_zero]
  refine ⟨a, xs, rfl, h, fun q => ?_, fun _ p hp => ?_⟩
  · have full : i = xs.length := e1.symm.trans q.2
    refine k a G (Same.refl G) ?_
    rw [full, List.take_length]
    exact h
  · refine k p _ ((Same.refl G).new hp) (SqT.of ?_)
    rw [upd_same, e2]
theorem not_before {α : Type} {xs : List α} (nd : xs.Nodup) {i : Nat} {x : α} (h : xs[i]? = some x) : x ∉ xs.take i := fun m => by
  obtain ⟨j, hj⟩ := List.getElem?_of_mem m
  have lt : j < i := by
    have q := (List.getElem?_eq_some_iff.mp hj).1
    rw [List.length_take] at q
    omega
  rw [List.getElem?_take_of_lt lt] at hj
  have := nd_ix nd hj h
  omega
structure TC (mg : Str → Option Value) : Prop where
  n : TN mg
  tup : mg "tuple" = none
  enm : mg "enumerate" = none
  most : ∃ t, mg "MOST_PARTS" = some (.int 8 t)
theorem tyT {K : PySem.W.Frag} {G : Hp} {a : Addr} {xs : List V} (h : SqT K G a xs) : TyX K G (.ref a) (.type "tuple") := by
  rcases h with (h | ⟨o, h⟩) | ⟨o, its, n, h, c, _⟩
  · exact .base (.tup h)
  · exact .fTuple h
  · exact .kTuple h c
def spParts (K : PySem.W.Frag) : Sp := fun vs G Z _ => ∃ p xs, vs = [.ref p] ∧ SqT K G p (xs.map V.str) ∧ Valid xs ∧ ∀ G', Same G G' → Z .non G'
def spPair (K : PySem.W.Frag) : Sp := fun vs G Z _ => ∃ v p xs, vs = [v, .ref p] ∧ SqT K G p (xs.map V.str) ∧
  ((∃ t, TyX K G v t ∧ PySem.W.kitOne K t (.type "tuple") = some false ∧ Z (.bl false) G) ∨
    ∃ a ys, v = .ref a ∧ SqT K G a ys ∧ ((ys.length ≠ 2 ∧ Z (.bl false) G) ∨
      ∃ v1 v2, ys = [v1, v2] ∧ StrOr K G v1 ∧ StrOr K G v2 ∧ Z (.bl (amongV v1 xs && (amongV v2 xs && !decide (v1 = v2)))) G))
section
variable {P : Program} {w : World} {K : PySem.W.Frag} {mg : Str → Option Value} {base : Heap}
theorem scParts : FnScope ["parts", "at", "part"] ["parts"] (defScope sParts) := ⟨rfl, rfl, rfl, by decide +kernel, rfl, by decide +kernel, by decide +kernel⟩
theorem ok_parts {f fN : Addr} {fd fdN : FuncData} (F : Fun K "_check_parts" "_check_parts" sParts f fd) (T : TC mg) (DN : DefAt K mg "is_name" ["value"] sName fN fdN) :
    FnOk P w K mg base CX0 2 f fd ["parts"] (spParts K) := by
  have GN : FnOk P w K mg base CX0 1 fN fdN ["value"] (spName K) := ok_name DN.fn T.n
  obtain ⟨t1, e1⟩ := T.most
  refine F.ok scParts (fun vs G Z E h => ?_) (fun cdv A out st G vs Z E hr h => ?_)
  · obtain ⟨p, xs, rfl, _⟩ := h
    rfl
  · obtain ⟨p, xs, rfl, hp, ok, fin⟩ := h
    refine ⟨_, pss_cons (ps_if (PW.pt (pw_or (pt_not (pt_val (pe_callB call_isi (by rfl) T.n.isi boot_isinstance (pa_cons (pv 0) (pa_cons (pe_bltn (v := .ty "tuple") (by rfl) T.tup boot_tuple rfl) pa_nil)))))
          (pw_or1 (pt_cmpR op_eq (pe_callB call_len_seq (by rfl) T.n.len PySem.boot_len (pa_cons (pv 0) pa_nil)) pe_int (nomark _))))) (pss_one ps_never) pss_nil)
      (pss_one (ps_for PassesOwn.never rfl (pi_enumT (by rfl) T.enm (pa_cons (pv 0) pa_nil)) (pg_tup rfl (pgs_cons (pg_name (i := 1) scParts.nd rfl (Or.inl rfl)) (pgs_cons (pg_name (i := 2) scParts.nd rfl (Or.inl rfl)) pgs_nil)))
        (pss_one (ps_if (PW.pt (pw_or (pt_cmpR op_eq (pv 1) (pe_glob (v := .int 8) rfl e1 ⟨_, rfl⟩) (nomark _)) (pw_or (pt_not (pt_val (pe_call GN hr rfl DN.gl DN.kp DN.bd .nil pass0 (pa_cons (pv 2) pa_nil))))
          (pw_or1 (pt_cmpR op_in_seq (pv 2) (pe_slice sl_tupA (pv 0) po_none (po_some (pv 1))) rfl))))) (pss_one ps_never) pss_nil)))), ?_⟩
    refine ⟨_, rfl, _, _, _, _, true, rfl, .ty _, tyT hp, kit_ty (by decide +kernel), _, rfl, iteF ⟨_, rfl, p, _, rfl, .inr hp, rfl, _, rfl, ?_⟩⟩
    have ne : ¬ (V.int ((xs.map V.str).length : Int) = V.int 0) := fun q => by
      have q' : ((xs.map V.str).length : Int) = 0 := V.int.inj q
      rw [List.length_map] at q'
      exact ok.1 (List.length_eq_zero_iff.mp (by omega))
    rw [decide_eq_false ne]
    refine iteF ⟨_, rfl, p, _, rfl, hp, for_it walk_enumT (fun i σ G' => ∃ v1 v2, σ = [some (.ref p), v1, v2] ∧ Same G G') ⟨_, _, rfl, Same.refl G⟩ (fun i σ G' _ ⟨_, _, _, s⟩ => Evl.ex_t s hp) ?_ ?_⟩
    · rintro i x σ G1 G2 hi ⟨v1, v2, rfl, s1⟩ ⟨r, y1, y2, rfl, hr1, rfl, e2, e3⟩
      obtain rfl : y1 = V.int (i : Nat) := (Option.some.inj e2).symm
      rw [List.length_map] at hi
      obtain rfl : y2 = V.str xs[i] := by
        have e4 : (xs.map V.str)[i]? = some y2 := e3
        rw [List.getElem?_map, List.getElem?_eq_getElem hi] at e4
        exact (Option.some.inj e4).symm
      have nm := ok.2.2.2 xs[i] (List.getElem_mem hi)
      have s2 : Same G (upd G1 r (.tup [.int (i : Nat), .str xs[i]])) := s1.new hr1
      refine ⟨r, _, rfl, SqT.of upd_same, rfl, _, _, rfl, _, _, rfl, rfl, _, rfl, rfl, _, rfl, ?_⟩
      have n8 : ¬ (V.int ((i : Nat) : Int) = V.int 8) := fun q => by
        have q' : ((i : Nat) : Int) = 8 := V.int.inj q
        have := ok.2.1
        omega
      show if decide (V.int ((i : Nat) : Int) = V.int 8) = true then _ else _
      rw [decide_eq_false n8]
      refine iteF ⟨_, rfl, _, rfl, .inl ⟨_, rfl, Nat.le_trans (name_small nm) (by decide)⟩, fun G3 s3 => ⟨_, rfl, ?_⟩⟩
      rw [show nameV (.str xs[i]) = true from nm]
      refine iteF ⟨_, rfl, _, rfl, _, rfl, _, rfl, ?_⟩
      have hp3 := Evl.ex_t (s2.trans s3) hp
      refine sl_take hp3 (by rw [List.length_map]; omega) fun q G4 s4 hq => ⟨q, _, rfl, .inr hq, rfl, ?_, _, rfl, ?_⟩
      · rw [← List.map_take]
        exact flat_strs _
      · have no : inV (V.str xs[i]) ((xs.map V.str).take i) = false := by
          rw [← List.map_take, inV_str]
          exact decide_eq_false (not_before ok.2.2.1 (List.getElem?_eq_getElem hi))
        show if inV (V.str xs[i]) ((xs.map V.str).take i) = true then _ else _
        rw [no]
        exact iteF ⟨_, _, rfl, (s2.trans s3).trans s4⟩
    · rintro σ G1 ⟨v1, v2, rfl, s1⟩
      exact fin _ s1
theorem scPair : FnScope ["value", "names", "one", "other"] ["value", "names"] (defScope sPair) := ⟨rfl, rfl, rfl, by decide +kernel, rfl, by decide +kernel, by decide +kernel⟩
theorem ok_pair {f fA : Addr} {fd fdA : FuncData} (F : Fun K "is_pair" "is_pair" sPair f fd) (T : TC mg) (DA : DefAt K mg "is_among" ["value", "names"] sAmong fA fdA) :
    FnOk P w K mg base CX0 2 f fd ["value", "names"] (spPair K) := by
  have GA : FnOk P w K mg base CX0 1 fA fdA ["value", "names"] (spAmong K) := ok_among DA.fn T.n
  refine F.ok scPair (fun vs G Z E h => ?_) (fun cdv A out st G vs Z E hr h => ?_)
  · obtain ⟨v, p, xs, rfl, _⟩ := h
    rfl
  · obtain ⟨v, p, xs, rfl, hp, h⟩ := h
    refine ⟨_, pss_cons (ps_if (PW.pt (pw_or (pt_not (pt_val (pe_callB call_isi (by rfl) T.n.isi boot_isinstance (pa_cons (pv 0) (pa_cons (pe_bltn (v := .ty "tuple") (by rfl) T.tup boot_tuple rfl) pa_nil)))))
          (pw_or1 (pt_cmpR op_ne (pe_callB call_len_seq (by rfl) T.n.len PySem.boot_len (pa_cons (pv 0) pa_nil)) pe_int (nomark _))))) (pss_one (ps_ret pe_bl)) pss_nil)
      (pss_cons (ps_asg (pv 0) (pg_tup rfl (pgs_cons (pg_name (i := 2) scPair.nd rfl (Or.inl rfl)) (pgs_cons (pg_name (i := 3) scPair.nd rfl (Or.inl rfl)) pgs_nil))))
      (pss_one (ps_ret (pe_and (pe_call GA hr rfl DA.gl DA.kp DA.bd .nil pass0 (pa_cons (pv 2) (pa_cons (pv 1) pa_nil)))
        (pe_and (pe_call GA hr rfl DA.gl DA.kp DA.bd .nil pass0 (pa_cons (pv 3) (pa_cons (pv 1) pa_nil))) (pe_one (pe_cmpR op_ne (pv 2) (pv 3) (nomark _)))))))), ?_⟩
    rcases h with ⟨t, ty, hk, z⟩ | ⟨a, ys, rfl, ha, h⟩
    · exact ⟨_, rfl, _, _, _, _, false, rfl, .ty _, ty, hk, _, rfl, iteT z⟩
    · refine ⟨_, rfl, _, _, _, _, true, rfl, .ty _, tyT ha, kit_ty (by decide +kernel), _, rfl, iteF ⟨_, rfl, a, _, rfl, .inr ha, rfl, _, rfl, ?_⟩⟩
      rcases h with ⟨n2, z⟩ | ⟨v1, v2, rfl, h1, h2, z⟩
      · have ne : ¬ (V.int (ys.length : Int) = V.int 2) := fun q => by
          have q' : (ys.length : Int) = 2 := V.int.inj q
          omega
        show if (!decide (V.int (ys.length : Int) = V.int 2)) = true then _ else _
        rw [decide_eq_false ne]
        exact iteT z
      · refine iteF ⟨_, rfl, a, _, rfl, ha, rfl, _, _, rfl, _, _, rfl, rfl, ?_⟩
        refine ⟨_, rfl, _, rfl, _, p, xs, rfl, h1, hp, _, rfl, ?_⟩
        cases c1 : amongV v1 xs with
        | false =>
          rw [c1] at z
          exact iteF z
        | true =>
          rw [c1] at z
          refine iteT ⟨_, rfl, _, rfl, _, p, xs, rfl, h2, hp, _, rfl, ?_⟩
          cases c2 : amongV v2 xs with
          | false =>
            rw [c2] at z
            exact iteF z
          | true =>
            rw [c2] at z
            have s1 : ∃ y, v1 = .str y := by
              cases v1 with
              | str y => exact ⟨y, rfl⟩
              | _ => cases c1
            have s2 : ∃ y, v2 = .str y := by
              cases v2 with
              | str y => exact ⟨y, rfl⟩
              | _ => cases c2
            obtain ⟨y1, rfl⟩ := s1
            obtain ⟨y2, rfl⟩ := s2
            exact iteT ⟨_, rfl, _, rfl, rfl, z⟩
/-! ### ties as data -/
def tieD (e : Str × Str) : PyData := .tuple [.str e.1, .str e.2]
theorem tieD_eqv (a b : Str × Str) : PyData.eqv (tieD a) (tieD b) = decide (a = b) := by
  obtain ⟨a1, a2⟩ := a
  obtain ⟨b1, b2⟩ := b
  have e : PyData.eqv (tieD (a1, a2)) (tieD (b1, b2)) = ((a1 == b1) && ((a2 == b2) && true)) := by simp only [tieD, PyData.eqv, PyData.eqvAll]
  rw [e]
  by_cases h1 : a1 = b1
  · by_cases h2 : a2 = b2
    · simp [h1, h2]
    · simp [h1, h2]
  · simp [h1]
theorem tieD_lay {a : Str × Str} (h1 : PyData.canLay0 (.str a.1) = true) (h2 : PyData.canLay0 (.str a.2) = true) : (tieD a).canLay0 = true := by
  simp only [tieD, PyData.canLay0, PyData.canLayAll0, Bool.and_true, Bool.and_eq_true]
  exact ⟨h1, h2⟩
theorem tieD_depth (a : Str × Str) : (tieD a).depth = 1 := by simp [tieD, PyData.depth, PyData.depthAll]
theorem tieDs_lay : ∀ {l : List (Str × Str)}, (∀ e ∈ l, (tieD e).canLay0 = true) → PyData.canLayAll0 (l.map tieD) = true
  | [], _ => rfl
  | e :: r, h => by
    show ((tieD e).canLay0 && PyData.canLayAll0 (r.map tieD)) = true
    rw [h e List.mem_cons_self, tieDs_lay fun x hx => h x (List.mem_cons_of_mem _ hx)]
    rfl
theorem tieDs_depth : ∀ (l : List (Str × Str)), PyData.depthAll (l.map tieD) ≤ 1
  | [] => Nat.zero_le _
  | e :: r => by
    have h1 := tieDs_depth r
    have h2 := tieD_depth e
    simp only [List.map_cons, PyData.depthAll]
    omega
theorem tieD_shaped {a : Str × Str} (h : (tieD a).canLay0 = true) : SeqAt.shaped (tieD a) = true := by
  show ((tieD a).canLay0 && decide ((tieD a).depth ≤ 64)) = true
  rw [h, tieD_depth]
  rfl
theorem tieDs_shaped {l : List (Str × Str)} (h : ∀ e ∈ l, (tieD e).canLay0 = true) : SeqAt.shaped (.tuple (l.map tieD)) = true := by
  have h1 := tieDs_depth l
  have h2 : PyData.depth (.tuple (l.map tieD)) ≤ 64 := by
    simp only [PyData.depth]
    omega
  show (PyData.canLay0 (.tuple (l.map tieD)) && decide (PyData.depth (.tuple (l.map tieD)) ≤ 64)) = true
  rw [decide_eq_true h2, Bool.and_true]
  simp only [PyData.canLay0]
  exact tieDs_lay h
theorem any_tie {a : Str × Str} : ∀ {l : List (Str × Str)}, ((l.map tieD).any fun z => PyData.eqv z (tieD a)) = decide (a ∈ l)
  | [] => rfl
  | e :: r => by
    have ih := any_tie (a := a) (l := r)
    show (PyData.eqv (tieD e) (tieD a) || ((r.map tieD).any fun z => PyData.eqv z (tieD a))) = _
    rw [ih, tieD_eqv]
    by_cases h : e = a
    · simp [h]
    · have h2 : ¬ a = e := fun q => h q.symm
      simp [h, h2]
theorem dp_tie {K : PySem.W.Frag} {G : Hp} {a : Addr} {x y : Str} (h : SqT K G a [.str x, .str y]) : Dp K G (.ref a) (tieD (x, y)) := .tup h (.cons (.str x) (.cons (.str y) .nil))
/-- ties that lie in a heap, a tuple of them at q -/
structure TiesAt (K : PySem.W.Frag) (G : Hp) (q : Addr) (L : List Tie) : Prop where
  tup : SqT K G q (refs L)
  each : ∀ e ∈ L, SqT K G e.1 [.str e.2.1, .str e.2.2]
theorem dps_tie {K : PySem.W.Frag} {G : Hp} : ∀ {L : List Tie}, (∀ e ∈ L, SqT K G e.1 [.str e.2.1, .str e.2.2]) → DpAll K G (refs L) ((L.map (·.2)).map tieD)
  | [], _ => .nil
  | e :: r, h => .cons (dp_tie (h e List.mem_cons_self)) (dps_tie fun x hx => h x (List.mem_cons_of_mem _ hx))
theorem TiesAt.dp {K : PySem.W.Frag} {G : Hp} {q : Addr} {L : List Tie} (h : TiesAt K G q L) : Dp K G (.ref q) (.tuple ((L.map (·.2)).map tieD)) := .tup h.tup (dps_tie h.each)
theorem TiesAt.same {K : PySem.W.Frag} {G G' : Hp} {q : Addr} {L : List Tie} (h : TiesAt K G q L) (s : Same G G') : TiesAt K G' q L := ⟨Evl.ex_t s h.tup, fun e he => Evl.ex_t s (h.each e he)⟩
theorem roads_lay {xs : List Str} {L : List Tie} (ok : Valid xs) (h : Roads xs L) : ∀ e ∈ L.map (·.2), (tieD e).canLay0 = true := fun e he => by
  obtain ⟨t, ht, rfl⟩ := List.mem_map.mp he
  obtain ⟨h1, h2, _⟩ := h.2 t ht
  exact tieD_lay (name_lay (ok.2.2.2 _ h1)) (name_lay (ok.2.2.2 _ h2))
def spTies (K : PySem.W.Frag) : Sp := fun vs G Z _ => ∃ q p xs L, vs = [.ref q, .ref p] ∧ TiesAt K G q L ∧ SqT K G p (xs.map V.str) ∧ Valid xs ∧ Roads xs L ∧ ∀ G', Same G G' → Z .non G'
theorem scTies : FnScope ["ties", "parts", "at", "tie"] ["ties", "parts"] (defScope sTies) := ⟨rfl, rfl, rfl, by decide +kernel, rfl, by decide +kernel, by decide +kernel⟩
theorem ok_ties {f fP : Addr} {fd fdP : FuncData} (F : Fun K "_check_ties" "_check_ties" sTies f fd) (T : TC mg) (DP : DefAt K mg "is_pair" ["value", "names"] sPair fP fdP)
    (GP : FnOk P w K mg base CX0 2 fP fdP ["value", "names"] (spPair K)) :
    FnOk P w K mg base CX0 3 f fd ["ties", "parts"] (spTies K) := by
  refine F.ok scTies (fun vs G Z E h => ?_) (fun cdv A out st G vs Z E hr h => ?_)
  · obtain ⟨q, p, xs, L, rfl, _⟩ := h
    rfl
  · obtain ⟨q, p, xs, L, rfl, hq, hp, ok, rds, fin⟩ := h
    have ru : (cxOf CX0 P w K mg base ["ties", "parts", "at", "tie"] "_check_ties" (defScope sTies) f cdv A out st G E).nox.A.units + 65 < cLine := by
      have := hr.un
      show (A.deeper _).units + 65 < cLine
      omega
    refine ⟨_, pss_cons (ps_if (pt_not (pt_val (pe_callB call_isi (by rfl) T.n.isi boot_isinstance (pa_cons (pv 0) (pa_cons (pe_bltn (v := .ty "tuple") (by rfl) T.tup boot_tuple rfl) pa_nil))))) (pss_one ps_never) pss_nil)
      (pss_one (ps_for PassesOwn.never rfl (pi_enumT (by rfl) T.enm (pa_cons (pv 0) pa_nil)) (pg_tup rfl (pgs_cons (pg_name (i := 2) scTies.nd rfl (Or.inl rfl)) (pgs_cons (pg_name (i := 3) scTies.nd rfl (Or.inl rfl)) pgs_nil)))
        (pss_one (ps_if (PW.pt (pw_or (pt_not (pt_val (pe_call GP hr rfl DP.gl DP.kp DP.bd .nil pass0 (pa_cons (pv 3) (pa_cons (pv 1) pa_nil)))))
          (pw_or1 (pt_cmpR (op_inT ru) (pv 3) (pe_slice sl_tupA (pv 0) po_none (po_some (pv 2))) rfl)))) (pss_one ps_never) pss_nil)))), ?_⟩
    refine ⟨_, rfl, _, _, _, _, true, rfl, .ty _, tyT hq.tup, kit_ty (by decide +kernel), _, rfl, iteF ?_⟩
    refine ⟨_, rfl, q, _, rfl, hq.tup, for_it walk_enumT (fun i σ G' => ∃ v1 v2, σ = [some (.ref q), some (.ref p), v1, v2] ∧ Same G G') ⟨_, _, rfl, Same.refl G⟩ (fun i σ G' _ ⟨_, _, _, s⟩ => Evl.ex_t s hq.tup) ?_ ?_⟩
    · rintro i x σ G1 G2 hi ⟨v1, v2, rfl, s1⟩ ⟨r, y1, y2, rfl, hr1, rfl, e2, e3⟩
      obtain rfl : y1 = V.int (i : Nat) := (Option.some.inj e2).symm
      unfold refs at hi
      rw [List.length_map] at hi
      obtain rfl : y2 = V.ref L[i].1 := by
        have e4 : (refs L)[i]? = some y2 := e3
        unfold refs at e4
        rw [List.getElem?_map, List.getElem?_eq_getElem hi] at e4
        exact (Option.some.inj e4).symm
      have mem := List.getElem_mem hi
      obtain ⟨a1, a2, a3⟩ := rds.2 _ mem
      have s2 : Same G (upd G1 r (.tup [.int (i : Nat), .ref L[i].1])) := s1.new hr1
      have hq2 := hq.same s2
      have nm1 := ok.2.2.2 _ a1
      have nm2 := ok.2.2.2 _ a2
      refine ⟨r, _, rfl, SqT.of upd_same, rfl, _, _, rfl, _, _, rfl, rfl, _, rfl, _, rfl, ?_⟩
      refine ⟨_, p, xs, rfl, Evl.ex_t s2 hp, .inr ⟨_, _, rfl, hq2.each _ mem, .inr ⟨_, _, rfl, .inl ⟨_, rfl, Nat.le_trans (name_small nm1) (by decide)⟩, .inl ⟨_, rfl, Nat.le_trans (name_small nm2) (by decide)⟩, _, rfl, ?_⟩⟩⟩
      have tr : (amongV (.str L[i].2.1) xs && (amongV (.str L[i].2.2) xs && !decide (V.str L[i].2.1 = V.str L[i].2.2))) = true := by
        have b1 : amongV (.str L[i].2.1) xs = true := decide_eq_true a1
        have b2 : amongV (.str L[i].2.2) xs = true := decide_eq_true a2
        have b3 : ¬ (V.str L[i].2.1 = V.str L[i].2.2) := fun q => a3 (V.str.inj q)
        rw [b1, b2, decide_eq_false b3]
        rfl
      rw [tr]
      refine iteF ⟨_, rfl, _, rfl, _, rfl, _, rfl, ?_⟩
      refine sl_take hq2.tup (by unfold refs; rw [List.length_map]; omega) fun u G4 s4 hu => ?_
      have hq4 := hq2.same s4
      have hu4 : TiesAt K G4 u (L.take i) := ⟨by unfold refs at hu ⊢; rw [List.map_take]; exact hu, fun e he => hq4.each e (List.mem_of_mem_take he)⟩
      have lay := roads_lay ok rds
      refine ⟨tieD L[i].2, _, dp_tie (hq4.each _ mem), hu4.dp, tieD_shaped (lay _ (List.mem_map.mpr ⟨_, mem, rfl⟩)), tieDs_shaped fun e he => ?_, _, rfl, ?_⟩
      · refine lay e ?_
        rw [List.map_take] at he
        exact List.mem_of_mem_take he
      · rw [any_tie]
        have no : L[i].2 ∉ (L.take i).map (·.2) := by
          rw [List.map_take]
          exact not_before rds.1 (by rw [List.getElem?_map, List.getElem?_eq_getElem hi]; rfl)
        rw [decide_eq_false no]
        exact iteF ⟨_, _, rfl, s2.trans s4⟩
    · rintro σ G1 ⟨v1, v2, rfl, s1⟩
      exact fin _ s1
end
end Fs

namespace Fs
open PySem PySem.Spec PyProof.Rows L2
abbrev sInit : Stmt := (inClass (top 19) 0)
/-- what an instance holds -/
def wf (p q : Addr) : List (Str × V) := putF "_ties" (.ref q) (putF "_parts" (.ref p) [])
theorem pt_ne : ¬ (("_parts" : Str) = "_ties") := by decide +kernel
theorem wf_eq (p q : Addr) : wf p q = ([("_parts", V.ref p), ("_ties", V.ref q)] : List (Str × V)) := by
  show (if ("_parts" : Str) = "_ties" then [(("_parts" : Str), V.ref q)] else (("_parts" : Str), V.ref p) :: putF "_ties" (V.ref q) []) = _
  rw [if_neg pt_ne]
  rfl
theorem wf_parts (p q : Addr) : (wf p q).lookup ("_parts" : Str) = some (.ref p) := by
  unfold wf
  rw [lookup_putF, if_neg pt_ne, lookup_putF, if_pos rfl]
theorem wf_ties (p q : Addr) : (wf p q).lookup ("_ties" : Str) = some (.ref q) := by
  unfold wf
  rw [lookup_putF, if_pos rfl]
theorem wf_no (p q : Addr) {m : Str} (h1 : ¬ m = "_ties") (h2 : ¬ m = "_parts") : (wf p q).lookup m = none := by
  unfold wf
  rw [lookup_putF, if_neg h1, lookup_putF, if_neg h2]
  rfl
structure TW (K : PySem.W.Frag) (mg : Str → Option Value) (C : Addr) : Prop where
  c : TC mg
  cl : Cls K C
  nP : NoAttr K C "_parts"
  nT : NoAttr K C "_ties"
  mgC : mg "Works" = some (.ref C)
/-- works that lie in a heap -/
structure WorksAt (K : PySem.W.Frag) (C : Addr) (G : Hp) (x p q : Addr) (xs : List Str) (L : List Tie) : Prop where
  ins : ∃ dx, G x = some (.ins C dx (wf p q))
  par : SqT K G p (xs.map V.str)
  tie : TiesAt K G q L
  ok : Valid xs
  rds : Roads xs L
theorem WorksAt.same {K : PySem.W.Frag} {C : Addr} {G G' : Hp} {x p q : Addr} {xs : List Str} {L : List Tie} (h : WorksAt K C G x p q xs L) (s : Same G G') : WorksAt K C G' x p q xs L :=
  ⟨h.ins.imp fun _ e => s _ _ e, Evl.ex_t s h.par, h.tie.same s, h.ok, h.rds⟩
def spInit (K : PySem.W.Frag) (C : Addr) : Sp := fun vs G Z _ => ∃ x p q dx xs L, vs = [.ref x, .ref p, .ref q] ∧ G x = some (.ins C dx []) ∧ SqT K G p (xs.map V.str) ∧ TiesAt K G q L ∧ Valid xs ∧ Roads xs L ∧
  ∀ G', Grow x G G' → G' x = some (.ins C dx (wf p q)) → Z .non G'
def pushed (xs : List Str) (L : List Tie) (z : Str) : List Str := xs.filter fun o => decide ((z, o) ∈ L.map (·.2))
def spPushes (K : PySem.W.Frag) (C : Addr) : Sp := fun vs G Z _ => ∃ x p q xs L z, vs = [.ref x, .str z] ∧ WorksAt K C G x p q xs L ∧ z ∈ xs ∧
  ∀ G' r, Same G G' → G r = none → G' r = some (.tup ((pushed xs L z).map V.str)) → Z (.ref r) G'
section
variable {P : Program} {w : World} {K : PySem.W.Frag} {mg : Str → Option Value} {base : Heap}
theorem scInit : FnScope ["self", "parts", "ties"] ["self", "parts", "ties"] (defScope sInit) := ⟨rfl, rfl, rfl, by decide +kernel, rfl, by decide +kernel, by decide +kernel⟩
theorem ok_init {f C fA fB : Addr} {fd fdA fdB : FuncData} {dvs : List V} (F : FunD K "__init__" "Works.__init__" (defArgs sInit) (defBody sInit) (defScope sInit) dvs [] f fd) (T : TW K mg C)
    (DA : DefAt K mg "_check_parts" ["parts"] sParts fA fdA) (GA : FnOk P w K mg base CX0 2 fA fdA ["parts"] (spParts K))
    (DB : DefAt K mg "_check_ties" ["ties", "parts"] sTies fB fdB) (GB : FnOk P w K mg base CX0 3 fB fdB ["ties", "parts"] (spTies K)) :
    FnOk P w K mg base CX0 4 f fd ["self", "parts", "ties"] (spInit K C) := by
  refine F.ok scInit (fun vs G Z E h => ?_) (fun cdv A out st G vs Z E hr h => ?_)
  · obtain ⟨x, p, q, dx, xs, L, rfl, _⟩ := h
    rfl
  · obtain ⟨x, p, q, dx, xs, L, rfl, hx, hp, hq, ok, rds, fin⟩ := h
    refine ⟨_, pss_cons (ps_expr (pe_call GA (hr.mono (by decide)) rfl DA.gl DA.kp DA.bd .nil pass0 (pa_cons (pv 1) pa_nil)))
      (pss_cons (ps_expr (pe_call GB hr rfl DB.gl DB.kp DB.bd .nil pass0 (pa_cons (pv 2) (pa_cons (pv 1) pa_nil))))
      (pss_cons (ps_fld (pv 0) (pv 1) rfl) (pss_one (ps_fld (pv 0) (pv 2) rfl)))), ?_⟩
    refine ⟨_, rfl, p, xs, rfl, hp, ok, fun G1 s1 => ?_⟩
    refine ⟨_, rfl, _, rfl, q, p, xs, L, rfl, hq.same s1, Evl.ex_t s1 hp, ok, rds, fun G2 s2 => ?_⟩
    have h2 := s2 _ _ (s1 _ _ hx)
    refine ⟨_, rfl, _, rfl, x, C, dx, [], rfl, h2, T.cl, T.nP, (by show 0 < 1000; decide), _, rfl, _, rfl, x, C, dx, _, rfl, upd_same, T.cl, T.nT, (by show 1 < 1000; decide), ?_⟩
    refine fin _ (((Grow.of (s1.trans s2)).at_).at_) ?_
    rw [upd_same]
    rfl
end
end Fs

namespace Fs
open PySem PySem.Spec PyProof.Rows L2
abbrev sRight : Stmt := (top 26)
abbrev sQuiet : Stmt := (top 27)
abbrev sLaw : Stmt := (top 28)
theorem made_same {G G' : Hp} {x dx C : Addr} (nx : G x = none) (nd : G dx = none) (g : Grow x (upd (upd G dx (.own x)) x (.ins C dx [])) G') : Same G G' := fun b o q => by
  have b1 : b ≠ x := ne_of_none q nx
  refine g b o b1 ?_
  rw [upd_ne b1, upd_ne (ne_of_none q nd)]
  exact q
theorem init_ok {K : PySem.W.Frag} {C : Addr} {G : Hp} {p q : Addr} {xs : List Str} {L : List Tie} {Y : Addr → Hp → Prop} {E : XK} (hp : SqT K G p (xs.map V.str)) (hq : TiesAt K G q L) (ok : Valid xs) (rds : Roads xs L)
    (k : ∀ x G', Same G G' → G x = none → WorksAt K C G' x p q xs L → Y x G') (x dx : Addr) (nx : G x = none) (nd : G dx = none) (ne : dx ≠ x) :
    spInit K C [.ref x, .ref p, .ref q] (upd (upd G dx (.own x)) x (.ins C dx [])) (fun v H2 => v = .non ∧ Y x H2) E := by
  have s0 : Same G (upd (upd G dx (.own x)) x (.ins C dx [])) := made_same nx nd (Grow.refl x _)
  refine ⟨x, p, q, dx, xs, L, rfl, upd_same, Evl.ex_t s0 hp, hq.same s0, ok, rds, fun G' g e => ⟨rfl, ?_⟩⟩
  have s := made_same nx nd g
  exact k x G' s nx ⟨⟨dx, e⟩, Evl.ex_t s hp, hq.same s, ok, rds⟩
theorem Roads.rev {xs : List Str} {L : List Tie} (h : Roads xs L) : Roads xs L.reverse := by
  refine ⟨?_, fun e he => h.2 e (List.mem_reverse.mp he)⟩
  rw [List.map_reverse]
  exact (List.reverse_perm _).nodup_iff.mpr h.1
theorem pushed_rev {xs : List Str} {L : List Tie} {z : Str} : pushed xs L.reverse z = pushed xs L z := by
  unfold pushed
  apply List.filter_congr
  intro o _
  rw [List.map_reverse]
  simp
theorem swap_nodup : ∀ {l : List (Str × Str)}, l.Nodup → (l.map fun e => (e.2, e.1)).Nodup
  | [], _ => List.nodup_nil
  | e :: r, h => by
    obtain ⟨h1, h2⟩ := List.nodup_cons.mp h
    refine List.nodup_cons.mpr ⟨fun m => h1 ?_, swap_nodup h2⟩
    obtain ⟨u, hu, q⟩ := List.mem_map.mp m
    obtain ⟨u1, u2⟩ := u
    obtain ⟨e1, e2⟩ := e
    cases q
    exact hu
theorem swap_mem {l : List (Str × Str)} {a b : Str} : ((a, b) ∈ l.map fun e => (e.2, e.1)) ↔ (b, a) ∈ l := by
  constructor
  · intro h
    obtain ⟨⟨u1, u2⟩, hu, q⟩ := List.mem_map.mp h
    cases q
    exact hu
  · intro h
    exact List.mem_map.mpr ⟨(b, a), h, rfl⟩
/-- [two for two in heads if (.., ..) in roads] -/
theorem lc_pick {K : PySem.W.Frag} {G : Hp} {sg : L2.St} {ia ib : Nat} {p q : Addr} {xs : List Str} {L : List Tie} {Z : VK} (fa fb : Str → Str) (hp : SqT K G p (xs.map V.str)) (hq : TiesAt K G q L) (ok : Valid xs) (rds : Roads xs L)
    (h2 : sg[2]? = some (some (.ref p))) (ha : ∀ y : Str, ((wipe sg [12]).set 12 (some (.str y)))[ia]? = some (some (.str (fa y)))) (hb : ∀ y : Str, ((wipe sg [12]).set 12 (some (.str y)))[ib]? = some (some (.str (fb y))))
    (h3 : ∀ y : Str, ((wipe sg [12]).set 12 (some (.str y)))[3]? = some (some (.ref q))) (h12 : ∀ y : Str, ((wipe sg [12]).set 12 (some (.str y)))[12]? = some (some (.str y)))
    (lay : ∀ y ∈ xs, (tieD (fa y, fb y)).canLay0 = true)
    (k : ∀ D G', Same G G' → G D = none → G' D = some (.lst ((xs.filter fun y => decide ((fa y, fb y) ∈ L.map (·.2))).map V.str)) → Z (.ref D) G') :
    tLc (iTup K (tVar 2)) (gName 12) (tTest (tOp (inT K) (tTup (tCons (tVar ia) (tCons (tVar ib) tNil))) (tVar 3))) (tVar 12) [12] sg G Z := by
  refine ⟨_, h2, p, rfl, ⟨_, hp⟩, fun D hD => ?_⟩
  let f : Str → Bool := fun y => decide ((fa y, fb y) ∈ L.map (·.2))
  refine lc_tup (K := K) (a := p) (xs := xs.map V.str) (fun i G' => Same G G' ∧ G' D = some (.lst (((xs.take i).filter f).map V.str))) ⟨(Same.refl G).new hD, upd_same⟩ (fun i G' _ s => Evl.ex_t s.1 hp) ?_ ?_
  · rintro i y G1 hi ⟨s1, eD⟩
    obtain ⟨o, ho, rfl⟩ : ∃ o, xs[i]? = some o ∧ y = V.str o := by
      rw [List.getElem?_map] at hi
      cases e : xs[i]? with
      | none =>
        rw [e] at hi
        cases hi
      | some o =>
        rw [e] at hi
        exact ⟨o, rfl, (Option.some.inj hi).symm⟩
    have mo : o ∈ xs := List.mem_of_getElem? ho
    have tk : (xs.take (i + 1)).filter f = (xs.take i).filter f ++ (if f o = true then [o] else []) := by
      rw [List.take_succ, ho, List.filter_append]
      congr 1
      show List.filter _ [o] = _
      rw [List.filter_cons, List.filter_nil]
    refine ⟨by simp [wipe], _, ha o, _, hb o, by show 2 ≤ sizeLine; decide, fun t ht => ?_⟩
    have s2 : Same G (upd G1 t (.tup [.str (fa o), .str (fb o)])) := s1.new ht
    have Dt : D ≠ t := ne_of_none eD ht
    refine ⟨_, h3 o, tieD (fa o, fb o), _, dp_tie (SqT.of upd_same), (hq.same s2).dp, tieD_shaped (lay o mo), tieDs_shaped (roads_lay ok rds), _, rfl, ?_⟩
    rw [any_tie]
    show if f o = true then _ else _
    cases c : f o with
    | true =>
      rw [c, if_pos rfl] at tk
      refine iteT ⟨_, h12 o, _, by rw [upd_ne Dt]; exact eD, ?_, ?_, ?_⟩
      · rw [List.length_map]
        refine small1000 (Nat.le_trans (List.length_filter_le _ _) ?_)
        rw [List.length_take]
        have := ok.2.1
        omega
      · exact fun b u hb => by
          rw [upd_ne (ne_of_none hb hD)]
          exact s2 b u hb
      · rw [upd_same, tk, List.map_append]
        rfl
    | false =>
      rw [c, if_neg Bool.false_ne_true, List.append_nil] at tk
      refine iteF ⟨s2, ?_⟩
      rw [upd_ne Dt, tk]
      exact eD
  · rintro G1 ⟨s1, eD⟩
    rw [List.length_map, List.take_length] at eD
    exact k D G1 s1 hD eD
/-- [pair[::-1] for pair in roads] -/
theorem lc_back {K : PySem.W.Frag} {G : Hp} {sg : L2.St} {q : Addr} {L : List Tie} {Z : VK} (hq : TiesAt K G q L) (few : L.length ≤ 64) (h3 : sg[3]? = some (some (.ref q)))
    (h11 : ∀ v : V, ((wipe sg [11]).set 11 (some v))[11]? = some (some v))
    (k : ∀ D G' L', Same G G' → G D = none → G' D = some (.lst (refs L')) → (∀ e ∈ L', TieOk G' e) → L'.map (·.2) = (L.map (·.2)).map (fun e => (e.2, e.1)) → Z (.ref D) G') :
    tLc (iTup K (tVar 3)) (gName 11) tYes (tBack K (tVar 11)) [11] sg G Z := by
  refine ⟨_, h3, q, rfl, ⟨_, hq.tup⟩, fun D hD => ?_⟩
  refine lc_tup (K := K) (a := q) (xs := refs L) (fun i G' => ∃ L', Same G G' ∧ G' D = some (.lst (refs L')) ∧ (∀ e ∈ L', TieOk G' e) ∧ L'.map (·.2) = ((L.take i).map (·.2)).map (fun e => (e.2, e.1)))
    ⟨[], (Same.refl G).new hD, upd_same, fun _ m => (List.not_mem_nil m).elim, rfl⟩ (fun i G' _ ⟨_, s, _⟩ => Evl.ex_t s hq.tup) ?_ ?_
  · rintro i y G1 hi ⟨L', s1, eD, ties, eq_⟩
    obtain ⟨e, he, rfl⟩ : ∃ e, L[i]? = some e ∧ y = V.ref e.1 := by
      unfold refs at hi
      rw [List.getElem?_map] at hi
      cases c : L[i]? with
      | none =>
        rw [c] at hi
        cases hi
      | some o =>
        rw [c] at hi
        exact ⟨o, rfl, (Option.some.inj hi).symm⟩
    have me := List.mem_of_getElem? he
    have len : L'.length ≤ 64 := by
      have q := congrArg List.length eq_
      simp only [List.length_map, List.length_take] at q
      omega
    refine ⟨by simp [wipe], _, h11 _, e.1, _, rfl, Evl.ex_t s1 (hq.each e me), fun t ht => ⟨_, by rw [upd_ne (ne_of_none eD ht)]; exact eD, ?_, ?_⟩⟩
    · unfold refs
      rw [List.length_map]
      exact small1000 (by omega)
    · have Dt : D ≠ t := ne_of_none eD ht
      refine ⟨L' ++ [(t, e.2.2, e.2.1)], fun b u hb => ?_, ?_, fun x hx => ?_, ?_⟩
      · rw [upd_ne (ne_of_none hb hD), upd_ne (ne_of_none (s1 b u hb) ht)]
        exact s1 b u hb
      · rw [upd_same]
        unfold refs
        rw [List.map_append]
        rfl
      · rcases List.mem_append.mp hx with hx | hx
        · have q := ties x hx
          show upd (upd G1 t _) D _ x.1 = _
          rw [upd_ne (ne_of q eD nofun), upd_ne (ne_of_none q ht)]
          exact q
        · obtain rfl := List.mem_singleton.mp hx
          show upd (upd G1 t _) D _ t = _
          rw [upd_ne Dt.symm, upd_same]
          rfl
      · rw [List.map_append, eq_, List.take_succ, he, List.map_append, List.map_append]
        rfl
  · rintro G1 ⟨L', s1, eD, ties, eq_⟩
    have full : (refs L).length = L.length := List.length_map _
    rw [full, List.take_length] at eq_
    exact k D G1 L' s1 hD eD ties eq_
/-- names of one kind, a tuple of them -/
theorem dp_strs {K : PySem.W.Frag} {G : Hp} : ∀ (xs : List Str), DpAll K G (xs.map V.str) (xs.map PyData.str)
  | [] => .nil
  | x :: r => .cons (.str x) (dp_strs r)
theorem fine_names {xs ys : List Str} (ok : Valid xs) (sub : ∀ y ∈ ys, y ∈ xs) (few : ys.length ≤ 8) : Fine (.tuple (ys.map PyData.str)) 1 72 :=
  (FineAll.of (a := 0) (u := 8) (n := 8) (fun d hd => by
    obtain ⟨y, hy, rfl⟩ := List.mem_map.mp hd
    have nm := ok.2.2.2 y (sub y hy)
    exact Fine.str (name_lay nm) (name_small nm)) (by rw [List.length_map]; exact few)).tup
theorem pushed_sub {xs : List Str} {L : List Tie} {z : Str} : ∀ y ∈ pushed xs L z, y ∈ xs := fun y hy => (List.mem_filter.mp hy).1
theorem pushed_few {xs : List Str} {L : List Tie} {z : Str} (ok : Valid xs) : (pushed xs L z).length ≤ 8 := Nat.le_trans (List.length_filter_le _ _) ok.2.1
structure TL (mg : Str → Option Value) : Prop where
  b : TB mg
  rep : mg "repr" = none
  all : mg "all" = none
  max : mg "max" = none
  min : mg "min" = none
def spRight : Sp := fun vs G Z _ => ∃ j, vs = [.ref j] ∧ Jug G j ∧ ∀ G', Jug G' j → Grow j G G' → Z (.bl true) G'
theorem Jug.same {G G' : Hp} {j : Addr} (h : Jug G j) (s : Same G G') : Jug G' j := by
  obtain ⟨a, b, c, e, r⟩ := h
  exact ⟨a, b, c, s _ _ e, r⟩
end Fs

namespace Fs
open PySem PySem.Spec PyProof.Rows L2 _root_.TL
/-! ### pages -/
theorem sign_low {z : Str} (h : nameL z.cps.toList = true) : ∀ c ∈ z.cps.toList, 48 ≤ c := by
  intro c hc
  cases e : z.cps.toList with
  | nil =>
    rw [e] at hc
    exact (List.not_mem_nil hc).elim
  | cons d r =>
    rw [e] at h hc
    have h' : (decide (r.length < 8) && (decide (d ∈ letterS.cps.toList) && (d :: r).all fun x => decide (x ∈ signS.cps.toList))) = true := h
    have h2 := (Bool.and_eq_true_iff.mp (Bool.and_eq_true_iff.mp h').2).2
    have h3 : c ∈ signS.cps.toList := of_decide_eq_true (List.all_eq_true.mp h2 c hc)
    have all : signS.cps.toList.all (fun x => decide (48 ≤ x)) = true := by decide +kernel
    exact of_decide_eq_true (List.all_eq_true.mp all c h3)
theorem name_no {z : Str} (h : nameL z.cps.toList = true) {c : Nat} (hc : c < 48) : c ∉ tl z := fun m => by
  have := sign_low h c m
  omega
theorem tl_nl : tl nlS = [10] := by decide +kernel
theorem tl_sp : tl spS = [32] := by decide +kernel
theorem tl_to : tl toS = 32 :: [62, 32] := by decide +kernel
theorem plain_nl : nlS.cps.all (· < 256) = true := by decide +kernel
theorem plain_sp : spS.cps.all (· < 256) = true := by decide +kernel
theorem plain_to : toS.cps.all (· < 256) = true := by decide +kernel
def Right (xs : List Str) (ts : List (Str × Str)) : Prop := ∀ e ∈ ts, e.1 ∈ xs ∧ e.2 ∈ xs
theorem Roads.right {xs : List Str} {L : List Tie} (h : Roads xs L) : Right xs (L.map (·.2)) := fun e he => by
  obtain ⟨t, ht, rfl⟩ := List.mem_map.mp he
  exact ⟨(h.2 t ht).1, (h.2 t ht).2.1⟩
theorem join_free {y : Str} {c : Nat} (hy : c ∉ tl y) : ∀ {l : List Str}, (∀ z ∈ l, c ∉ tl z) → c ∉ tl (Txt.join y l)
  | [], _ => by
    rw [join_eq]
    exact List.not_mem_nil
  | [a], h => by
    rw [join_eq]
    exact h a List.mem_cons_self
  | a :: b :: r, h => by
    have ih := join_free (y := y) hy (l := b :: r) fun z hz => h z (List.mem_cons_of_mem _ hz)
    rw [join_eq] at ih ⊢
    show c ∉ tl (a ++ y ++ Str.join y (b :: r))
    rw [tl_append, tl_append]
    intro m
    rcases List.mem_append.mp m with m | m
    · rcases List.mem_append.mp m with m | m
      · exact h a List.mem_cons_self m
      · exact hy m
    · exact ih m
theorem split_heads {xs : List Str} (ok : Valid xs) : Txt.split (Txt.join spS xs) spS = xs :=
  split_join tl_sp plain_sp ok.1 fun p hp => name_no (ok.2.2.2 p hp) (by decide)
theorem split_line {xs : List Str} (ok : Valid xs) {e : Str × Str} (h : e.1 ∈ xs ∧ e.2 ∈ xs) : Txt.split (lineT e) toS = [e.1, e.2] := by
  refine split_join tl_to plain_to (by simp) fun p hp => ?_
  rcases List.mem_cons.mp hp with rfl | hp
  · exact name_no (ok.2.2.2 _ h.1) (by decide)
  · obtain rfl := List.mem_singleton.mp hp
    exact name_no (ok.2.2.2 _ h.2) (by decide)
theorem split_page {xs : List Str} {ts : List (Str × Str)} (ok : Valid xs) (h : Right xs ts) : Txt.split (pageT xs ts) nlS = pageL xs ts := by
  refine split_join tl_nl plain_nl (by simp [pageL]) fun p hp => ?_
  rcases List.mem_cons.mp hp with rfl | hp
  · exact join_free (by rw [tl_sp]; decide) fun z hz => name_no (ok.2.2.2 z hz) (by decide)
  · obtain ⟨e, he, rfl⟩ := List.mem_map.mp hp
    refine join_free (by rw [tl_to]; decide) fun z hz => ?_
    rcases List.mem_cons.mp hz with rfl | hz
    · exact name_no (ok.2.2.2 _ (h e he).1) (by decide)
    · obtain rfl := List.mem_singleton.mp hz
      exact name_no (ok.2.2.2 _ (h e he).2) (by decide)
theorem lines_inj {xs ys : List Str} (ok : Valid xs) (ok2 : Valid ys) : ∀ {ts us : List (Str × Str)}, Right xs ts → Right ys us → ts.map lineT = us.map lineT → ts = us
  | [], [], _, _, _ => rfl
  | [], _ :: _, _, _, q => by cases q
  | _ :: _, [], _, _, q => by cases q
  | e :: r, d :: t, h, k, q => by
    have q' : lineT e = lineT d ∧ r.map lineT = t.map lineT := List.cons.inj q
    have h1 := split_line ok (h e List.mem_cons_self)
    have h2 := split_line ok2 (k d List.mem_cons_self)
    rw [q'.1, h2] at h1
    have e1 : d.1 = e.1 := (List.cons.inj h1).1
    have e2 : d.2 = e.2 := (List.cons.inj (List.cons.inj h1).2).1
    have ed : e = d := Prod.ext e1.symm e2.symm
    rw [ed, lines_inj ok ok2 (fun x hx => h x (List.mem_cons_of_mem _ hx)) (fun x hx => k x (List.mem_cons_of_mem _ hx)) q'.2]
theorem page_inj {xs ys : List Str} {ts us : List (Str × Str)} (ok : Valid xs) (ok2 : Valid ys) (h : Right xs ts) (k : Right ys us) : pageT xs ts = pageT ys us ↔ xs = ys ∧ ts = us := by
  constructor
  · intro q
    have h1 := split_page ok h
    rw [q, split_page ok2 k] at h1
    have h2 : Txt.join spS ys = Txt.join spS xs ∧ us.map lineT = ts.map lineT := List.cons.inj h1
    have h3 := split_heads ok
    rw [← h2.1, split_heads ok2] at h3
    exact ⟨h3.symm, (lines_inj ok2 ok k h h2.2).symm⟩
  · rintro ⟨rfl, rfl⟩
    rfl
/-! ### how long they are -/
theorem sum_le {l : List Nat} {m : Nat} (h : ∀ x ∈ l, x ≤ m) : l.sum ≤ l.length * m := by
  induction l with
  | nil => exact Nat.zero_le _
  | cons a r ih =>
    have h1 := h a List.mem_cons_self
    have h2 := ih fun x hx => h x (List.mem_cons_of_mem _ hx)
    rw [List.sum_cons, List.length_cons, Nat.succ_mul]
    omega
theorem join_le {y : Str} {l : List Str} {m : Nat} (h : ∀ x ∈ l, x.length ≤ m) : (Txt.join y l).length ≤ l.length * (m + y.length) := by
  have h1 := StrLaws.join_length_le y l
  have h2 := sum_le (l := l.map (·.length)) (m := m) fun x hx => by
    obtain ⟨z, hz, rfl⟩ := List.mem_map.mp hx
    exact h z hz
  rw [List.length_map] at h2
  rw [join_eq, Nat.mul_add]
  omega
theorem few_roads {xs : List Str} {L : List Tie} (ok : Valid xs) (h : Roads xs L) : L.length ≤ 64 := by
  have q := count_pairs ok.2.2.1 h.1 fun e he => by
    obtain ⟨u, hu, rfl⟩ := List.mem_map.mp he
    exact ⟨(h.2 u hu).1, (h.2 u hu).2.1⟩
  have s := sum_le (l := xs.map fun o => (pushed xs L o).length) (m := 8) fun x hx => by
    obtain ⟨o, _, rfl⟩ := List.mem_map.mp hx
    exact pushed_few ok
  rw [List.length_map] at s q
  have q2 : (xs.map fun o => (pushed xs L o).length).sum = L.length := q
  have := ok.2.1
  omega
theorem heads_len {xs : List Str} (ok : Valid xs) : (Txt.join spS xs).length ≤ 72 := by
  have h := join_le (y := spS) (l := xs) (m := 8) fun x hx => name_small (ok.2.2.2 x hx)
  have e : spS.length = 1 := by decide +kernel
  rw [e] at h
  have := ok.2.1
  omega
theorem line_len {xs : List Str} (ok : Valid xs) {e : Str × Str} (h : e.1 ∈ xs ∧ e.2 ∈ xs) : (lineT e).length ≤ 22 := by
  have k := join_le (y := toS) (l := [e.1, e.2]) (m := 8) fun x hx => by
    rcases List.mem_cons.mp hx with rfl | hx
    · exact name_small (ok.2.2.2 _ h.1)
    · obtain rfl := List.mem_singleton.mp hx
      exact name_small (ok.2.2.2 _ h.2)
  have e3 : toS.length = 3 := by decide +kernel
  rw [e3] at k
  exact k
theorem lines_le {xs : List Str} {ts : List (Str × Str)} (ok : Valid xs) (h : Right xs ts) : ∀ z ∈ pageL xs ts, z.length ≤ 72 := fun z hz => by
  rcases List.mem_cons.mp hz with rfl | hz
  · exact heads_len ok
  · obtain ⟨e, he, rfl⟩ := List.mem_map.mp hz
    exact Nat.le_trans (line_len ok (h e he)) (by decide)
theorem page_len {xs : List Str} {ts : List (Str × Str)} (ok : Valid xs) (h : Right xs ts) (few : ts.length ≤ 64) : (pageT xs ts).length ≤ 4745 := by
  have k := join_le (y := nlS) (lines_le ok h)
  have e : nlS.length = 1 := by decide +kernel
  have l : (pageL xs ts).length = ts.length + 1 := by simp [pageL]
  rw [e, l] at k
  exact Nat.le_trans k (by omega)
theorem page_fits {xs : List Str} {ts : List (Str × Str)} (ok : Valid xs) (h : Right xs ts) (few : ts.length ≤ 64) : ((pageL xs ts).map (·.length)).sum + (pageL xs ts).length * nlS.length ≤ 16777216 := by
  have s := sum_le (l := (pageL xs ts).map (·.length)) (m := 72) fun x hx => by
    obtain ⟨z, hz, rfl⟩ := List.mem_map.mp hx
    exact lines_le ok h z hz
  rw [List.length_map] at s
  have l : (pageL xs ts).length = ts.length + 1 := by simp [pageL]
  have e : nlS.length = 1 := by decide +kernel
  rw [l] at s ⊢
  rw [e]
  omega
theorem heads_fits {xs : List Str} (ok : Valid xs) : (xs.map (·.length)).sum + xs.length * spS.length ≤ 16777216 := by
  have s := sum_le (l := xs.map (·.length)) (m := 8) fun x hx => by
    obtain ⟨z, hz, rfl⟩ := List.mem_map.mp hx
    exact name_small (ok.2.2.2 z hz)
  rw [List.length_map] at s
  have e : spS.length = 1 := by decide +kernel
  have := ok.2.1
  rw [e]
  omega
end Fs

namespace Fs
open PySem PySem.Spec PyProof.Rows L2 _root_.TL
abbrev sStr : Stmt := (inClass (top 19) 6)
abbrev sEq : Stmt := (inClass (top 19) 7)
theorem line_eq (a b : Str) : Str.empty ++ a ++ toS ++ b = lineT (a, b) := by
  unfold lineT
  rw [join_eq]
  refine ext_tl ?_
  show _ = tl (a ++ toS ++ b)
  rw [tl_append, tl_append, tl_append, tl_append, tl_append]
  rfl
theorem line_eq2 (a b : Str) : a ++ toS ++ b = lineT (a, b) := by
  unfold lineT
  rw [join_eq]
  rfl
/-- what isinstance asks of the class -/
structure TI (K : PySem.W.Frag) (C : Addr) : Prop where
  ha : PySem.W.findIn K (.ref C) "__class__" = some (some (.builtin "object.__class__"))
  hn : PySem.W.specialIn K (.builtin "object.__class__") "__get__" = some (some (.builtin "getset_descriptor.__get__"))
  htk : PySem.W.takesIn K (.builtin "object.__class__") = some true
  hm : PySem.W.mroIn K C (.type "object") = some true
  one : PySem.W.kitOne K (.ref C) (.ref C) = some true
theorem TI.ty {K : PySem.W.Frag} {mg : Str → Option Value} {C : Addr} (I : TI K C) (T : TW K mg C) {G : Hp} {x dx : Addr} {fs : List (Str × V)} (h : G x = some (.ins C dx fs)) : TyX K G (.ref x) (.ref C) :=
  .base (.ins h T.cl I.ha I.hn I.htk I.hm)
def spStr (K : PySem.W.Frag) (C : Addr) : Sp := fun vs G Z _ => ∃ x p q xs L, vs = [.ref x] ∧ WorksAt K C G x p q xs L ∧ ∀ G', Same G G' → Z (.str (pageT xs (L.map (·.2)))) G'
/-- x == y, x works: y works, or of another class -/
def spEq (K : PySem.W.Frag) (C : Addr) : Sp := fun vs G Z _ => ∃ x p q xs L v, vs = [.ref x, v] ∧ WorksAt K C G x p q xs L ∧
  ((∃ t, TyX K G v t ∧ PySem.W.kitOne K t (.ref C) = some false ∧ Z (.bl false) G) ∨
    ∃ y r s ys M, v = .ref y ∧ WorksAt K C G y r s ys M ∧ Z (.bl (decide (xs = ys ∧ L.map (·.2) = M.map (·.2)))) G)
theorem eqvAll_strs : ∀ (xs ys : List Str), PyData.eqvAll (xs.map PyData.str) (ys.map PyData.str) = decide (xs = ys)
  | [], [] => by simp [PyData.eqvAll]
  | [], _ :: _ => by simp [PyData.eqvAll]
  | _ :: _, [] => by simp [PyData.eqvAll]
  | x :: r, y :: t => by
    have ih := eqvAll_strs r t
    simp only [List.map_cons, PyData.eqvAll, PyData.eqv, ih]
    by_cases h : x = y
    · simp [h]
    · simp [h]
theorem eqv_heads (xs ys : List Str) : PyData.eqv (.tuple (xs.map PyData.str)) (.tuple (ys.map PyData.str)) = decide (xs = ys) := by
  simp only [PyData.eqv]
  exact eqvAll_strs xs ys
theorem eqvAll_ties : ∀ (xs ys : List (Str × Str)), PyData.eqvAll (xs.map tieD) (ys.map tieD) = decide (xs = ys)
  | [], [] => by simp [PyData.eqvAll]
  | [], _ :: _ => by simp [PyData.eqvAll]
  | _ :: _, [] => by simp [PyData.eqvAll]
  | x :: r, y :: t => by
    have ih := eqvAll_ties r t
    simp only [List.map_cons, PyData.eqvAll, tieD_eqv, ih]
    by_cases h : x = y
    · simp [h]
    · simp [h]
theorem eqv_ties (xs ys : List (Str × Str)) : PyData.eqv (.tuple (xs.map tieD)) (.tuple (ys.map tieD)) = decide (xs = ys) := by
  simp only [PyData.eqv]
  exact eqvAll_ties xs ys
theorem heads_shaped {xs : List Str} (ok : Valid xs) : SeqAt.shaped (.tuple (xs.map PyData.str)) = true := (fine_names ok (fun _ h => h) ok.2.1).shaped (by decide)
section
variable {P : Program} {w : World} {K : PySem.W.Frag} {mg : Str → Option Value} {base : Heap}
def tLine : TE := fun sg G Z => tJs [tFmt (tVar 2), tC (.str toS), tFmt (tVar 3)] Str.empty sg G fun out G1 => Z (.str out) G1
theorem scStr : FnScope ["self", "lines", "one", "other"] ["self"] (defScope sStr) := ⟨rfl, rfl, rfl, by decide +kernel, rfl, by decide +kernel, by decide +kernel⟩
theorem ok_str {f C : Addr} {fd : FuncData} (F : Fun K "__str__" "Works.__str__" sStr f fd) (T : TW K mg C) : FnOk P w K mg base CX0 1 f fd ["self"] (spStr K C) := by
  refine F.ok scStr (fun vs G Z E h => ?_) (fun cdv A out st G vs Z E hr h => ?_)
  · obtain ⟨x, p, q, xs, L, rfl, _⟩ := h
    rfl
  · obtain ⟨x, p, q, xs, L, rfl, wk, fin⟩ := h
    obtain ⟨dx, hx⟩ := wk.ins
    have rt := wk.rds.right
    have few := few_roads wk.ok wk.rds
    refine ⟨_, (pss_cons (ps_setLc (i := 1) (own := [("one", 2), ("other", 3)]) (g := gTup K 2 (gCons (gName 2) (gCons (gName 3) gNil))) (tt := tYes)
          (te := tLine) rfl scStr.nd rfl rfl (sw_true rfl rfl rfl rfl) (pi_tup (pe_fld (pv 0) rfl)) (blkOk_by (N := ["self", "lines", "one", "other"]) (sc := defScope sStr) (by decide +kernel))
          (fun _ _ _ _ _ => pg_tup rfl (pgs_cons (pg_name (i := 2) scStr.nd rfl (Or.inl rfl)) (pgs_cons (pg_name (i := 3) scStr.nd rfl (Or.inl rfl)) pgs_nil))) (fun _ _ _ _ _ => pts_nil)
          (fun _ _ _ _ _ => pe_joined (.cons (pe_fmt (pv 2)) (.cons pe_str (.cons (pe_fmt (pv 3)) .nil)))))
        (pss_one (ps_ret (pe_join pe_str (pe_lst (pa_cons (pe_join pe_str (pe_fld (pv 0) rfl)) (StX.pa_star (pv 1) pa_nil))))))), ?_⟩
    refine ⟨_, rfl, x, C, dx, _, _, rfl, hx, T.cl, T.nT, wf_ties p q, q, rfl, ⟨_, wk.tie.tup⟩, fun D hD => ?_⟩
    refine lc_tup (K := K) (a := q) (xs := refs L) (fun i G' => Same G G' ∧ G' D = some (.lst ((((L.map (·.2)).take i).map lineT).map V.str))) ⟨(Same.refl G).new hD, upd_same⟩ (fun i G' _ s => Evl.ex_t s.1 wk.tie.tup) ?_ ?_
    · rintro i y G1 hi ⟨s1, eD⟩
      obtain ⟨e, he, rfl⟩ : ∃ e, L[i]? = some e ∧ y = V.ref e.1 := by
        unfold refs at hi
        rw [List.getElem?_map] at hi
        cases c : L[i]? with
        | none =>
          rw [c] at hi
          cases hi
        | some o =>
          rw [c] at hi
          exact ⟨o, rfl, (Option.some.inj hi).symm⟩
      have me := List.mem_of_getElem? he
      have n1 : e.2.1.length ≤ 8 := name_small (wk.ok.2.2.2 _ (wk.rds.2 e me).1)
      have n2 : e.2.2.length ≤ 8 := name_small (wk.ok.2.2.2 _ (wk.rds.2 e me).2.1)
      have n3 : toS.length = 3 := by decide +kernel
      have n0 : Str.empty.length = 0 := rfl
      refine ⟨e.1, _, rfl, Evl.ex_t s1 (wk.tie.each e me), rfl, _, _, rfl, _, _, rfl, rfl, rfl, ?_⟩
      refine ⟨_, rfl, .inl ⟨e.2.1, rfl, by rw [sizeLine_eq]; omega, e.2.1, rfl, by rw [Str.length_append, sizeLine_eq]; omega, toS, rfl, by rw [Str.length_append, Str.length_append, sizeLine_eq]; omega, _, rfl,
        .inl ⟨e.2.2, rfl, by rw [sizeLine_eq]; omega, e.2.2, rfl, by rw [Str.length_append, Str.length_append, Str.length_append, sizeLine_eq]; omega, ?_⟩⟩⟩
      rw [line_eq]
      refine ⟨_, eD, ?_, fun b u hb => ?_, ?_⟩
      · rw [List.length_map, List.length_map, List.length_take, List.length_map]
        exact small1000 (by omega)
      · rw [upd_ne (ne_of_none hb hD)]
        exact s1 b u hb
      · rw [upd_same, List.take_succ, List.getElem?_map, he, List.map_append, List.map_append]
        rfl
    · rintro G1 ⟨s1, eD⟩
      have full : (refs L).length = (L.map (·.2)).length := by
        unfold refs
        rw [List.length_map, List.length_map]
      rw [full, List.take_length] at eD
      refine ⟨⟨_, rfl⟩, ⟨_, rfl⟩, _, rfl, x, C, dx, _, _, rfl, s1 _ _ hx, T.cl, T.nP, wf_parts p q, spS, p, xs, rfl, rfl, .inr (Evl.ex_t s1 wk.par), heads_fits wk.ok, _, rfl, D, _, rfl, .inr (SqL.of eD), ?_⟩
      refine ⟨?_, fun l hl => ?_⟩
      · rw [List.append_nil, List.length_cons, List.length_map, List.length_map, List.length_map, sizeLine_eq]
        omega
      · refine ⟨nlS, l, pageL xs (L.map fun e : Tie => e.2), rfl, rfl, .inl (SqL.of ?_), page_fits wk.ok rt (by rw [List.length_map]; exact few), fin _ (s1.new hl)⟩
        rw [upd_same, List.append_nil]
        rfl
theorem scEq : FnScope ["self", "other"] ["self", "other"] (defScope sEq) := ⟨rfl, rfl, rfl, by decide +kernel, rfl, by decide +kernel, by decide +kernel⟩
theorem ok_eq {f C : Addr} {fd : FuncData} (F : Fun K "__eq__" "Works.__eq__" sEq f fd) (T : TW K mg C) (I : TI K C) : FnOk P w K mg base CX0 1 f fd ["self", "other"] (spEq K C) := by
  refine F.ok scEq (fun vs G Z E h => ?_) (fun cdv A out st G vs Z E hr h => ?_)
  · obtain ⟨x, p, q, xs, L, v, rfl, _⟩ := h
    rfl
  · obtain ⟨x, p, q, xs, L, v, rfl, wk, h⟩ := h
    obtain ⟨dx, hx⟩ := wk.ins
    have hu : (cxOf CX0 P w K mg base ["self", "other"] "Works.__eq__" (defScope sEq) f cdv A out st G E).nox.A.units + 64 < cLine := by
      have := hr.un
      show (A.deeper _).units + 64 < cLine
      omega
    refine ⟨_, (pss_one (ps_ret (pe_and (pe_callB call_isi (by rfl) T.c.n.isi boot_isinstance (pa_cons (pv 1) (pa_cons (pe_glob (v := .ref C) rfl T.mgC rfl) pa_nil)))
        (pe_and (pe_cmpR (op_eqD hu) (pe_fld (pv 0) rfl) (pe_fld (pv 1) rfl) (nomark _)) (pe_one (pe_cmpR (op_eqD hu) (pe_fld (pv 0) rfl) (pe_fld (pv 1) rfl) (nomark _))))))), ?_⟩
    rcases h with ⟨t, ty, hk, z⟩ | ⟨y, r, s, ys, M, rfl, wk2, z⟩
    · exact ⟨_, rfl, _, _, _, _, false, rfl, .own C, ty, hk, _, rfl, iteF z⟩
    · obtain ⟨dy, hy⟩ := wk2.ins
      refine ⟨_, rfl, _, _, _, _, true, rfl, .own C, I.ty T hy, I.one, _, rfl, iteT ?_⟩
      refine ⟨_, rfl, x, C, dx, _, _, rfl, hx, T.cl, T.nP, wf_parts p q, _, rfl, y, C, dy, _, _, rfl, hy, T.cl, T.nP, wf_parts r s, _, _, .tup wk.par (dp_strs xs), .tup wk2.par (dp_strs ys), heads_shaped wk.ok, heads_shaped wk2.ok, _, rfl, ?_⟩
      rw [eqv_heads]
      by_cases c : xs = ys
      · rw [decide_eq_true c]
        refine iteT ⟨_, rfl, x, C, dx, _, _, rfl, hx, T.cl, T.nT, wf_ties p q, _, rfl, y, C, dy, _, _, rfl, hy, T.cl, T.nT, wf_ties r s, _, _, wk.tie.dp, wk2.tie.dp, tieDs_shaped (roads_lay wk.ok wk.rds), tieDs_shaped (roads_lay wk2.ok wk2.rds), ?_⟩
        rw [eqv_ties]
        have e : decide (xs = ys ∧ L.map (·.2) = M.map (·.2)) = decide (L.map (·.2) = M.map (·.2)) := by
          rw [decide_eq_decide]
          exact ⟨fun q => q.2, fun q => ⟨c, q⟩⟩
        rw [e] at z
        exact z
      · rw [decide_eq_false c]
        have e : decide (xs = ys ∧ L.map (·.2) = M.map (·.2)) = false := decide_eq_false fun q => c q.1
        rw [e] at z
        exact iteF z
end
end Fs

namespace Fs
open PySem PySem.Spec PyProof.Rows L2 _root_.TL
abbrev sRead : Stmt := (inClass (top 19) 1)
abbrev nRead : List Str := ["cls", "text", "first", "rest", "parts", "ties", "line"]
/-- right pairs of parts -/
def Way (xs : List Str) (ts : List (Str × Str)) : Prop := ts.Nodup ∧ ∀ e ∈ ts, e.1 ∈ xs ∧ e.2 ∈ xs ∧ e.1 ≠ e.2
theorem Way.roads {xs : List Str} {ts : List (Str × Str)} (h : Way xs ts) {L : List Tie} (e : L.map (fun t : Tie => t.2) = ts) : Roads xs L := by
  subst e
  exact ⟨h.1, fun t ht => h.2 t.2 (List.mem_map.mpr ⟨t, ht, rfl⟩)⟩
theorem Roads.way {xs : List Str} {L : List Tie} (h : Roads xs L) : Way xs (L.map fun t : Tie => t.2) := ⟨h.1, fun e he => by
  obtain ⟨t, ht, rfl⟩ := List.mem_map.mp he
  exact h.2 t ht⟩
theorem Way.right {xs : List Str} {ts : List (Str × Str)} (h : Way xs ts) : Right xs ts := fun e he => ⟨(h.2 e he).1, (h.2 e he).2.1⟩
theorem Way.few {xs : List Str} {ts : List (Str × Str)} (ok : Valid xs) (h : Way xs ts) : ts.length ≤ 64 := by
  have e : (ts.map fun e => ((0, e) : Tie)).map (fun t : Tie => t.2) = ts := by
    rw [List.map_map]
    exact List.map_id ts
  have q := few_roads ok (h.roads e)
  rw [List.length_map] at q
  exact q
theorem TiesAt.mk' {K : PySem.W.Frag} {G : Hp} {q : Addr} {L : List Tie} (h : G q = some (.tup (refs L))) (t : ∀ e ∈ L, TieOk G e) : TiesAt K G q L := ⟨SqT.of h, fun e he => SqT.of (t e he)⟩
def spRead (K : PySem.W.Frag) (C : Addr) : Sp := fun vs G Z _ => ∃ xs ts, vs = [.ref C, .str (pageT xs ts)] ∧ Valid xs ∧ Way xs ts ∧
  ∀ G' x p q L, Same G G' → G x = none → WorksAt K C G' x p q xs L → L.map (fun t : Tie => t.2) = ts → Z (.ref x) G'
def rCut : V → List V → Hp → VK → Prop := fun x xs G Z => ∃ a b, x = .str a ∧ xs = [.str b] ∧ (b.length == 0) = false ∧ a.length + 2 ≤ sizeLine ∧ rNewStrs (Txt.split a b) G Z
def rTupL (K : PySem.W.Frag) : List V → Hp → VK → Prop := fun xs G Z => ∃ p ys, xs = [.ref p] ∧ ((SqL K G p ys ∧ ∀ l, G l = none → Z (.ref l) (upd G l (.tup ys))) ∨ (SqT K G p ys ∧ Z (.ref p) G))
theorem toS_some : (toS.length == 0) = false := by decide +kernel
theorem nlS_some : (nlS.length == 0) = false := by decide +kernel
theorem spS_some : (spS.length == 0) = false := by decide +kernel
section
variable {P : Program} {w : World} {K : PySem.W.Frag} {mg : Str → Option Value} {base : Heap}
theorem scRead : FnScope nRead ["cls", "text"] (defScope sRead) := ⟨rfl, rfl, rfl, by decide +kernel, rfl, by decide +kernel, by decide +kernel⟩
theorem ok_read {f C fI : Addr} {fd fdI : FuncData} (F : Fun K "read" "Works.read" sRead f fd) (T : TW K mg C)
    (M : Mk K C fI) (GI : FnOk P w K mg base CX0 4 fI fdI ["self", "parts", "ties"] (spInit K C)) (bI : Binds K fdI ["self", "parts", "ties"] []) :
    FnOk P w K mg base CX0 6 f fd ["cls", "text"] (spRead K C) := by
  refine F.ok scRead (fun vs G Z E h => ?_) (fun cdv A out st G vs Z E hr h => ?_)
  · obtain ⟨xs, ts, rfl, _⟩ := h
    rfl
  · obtain ⟨xs, ts, rfl, ok, way, fin⟩ := h
    have rt := way.right
    have few := way.few ok
    refine ⟨_, (pss_cons (ps_if (pt_not (pt_val (pe_callB call_isi (by rfl) T.c.n.isi boot_isinstance (pa_cons (pv 1) (pa_cons (pe_bltn (v := .ty "str") (by rfl) T.c.n.str boot_str rfl) pa_nil))))) (pss_one ps_never) pss_nil)
        (pss_cons (ps_asg (pe_split (pv 1) pe_str) (pg_star rfl (pg_name (i := 2) scRead.nd rfl (Or.inl rfl)) (pg_name (i := 3) scRead.nd rfl (Or.inl rfl))))
        (pss_cons (ps_set (i := 4) scRead.nd rfl (Or.inl rfl) (pe_callTy call_tuple_of (by rfl) T.c.tup boot_tuple (pa_cons (pe_split (pv 2) pe_str) pa_nil)))
        (pss_cons (ps_set (i := 5) scRead.nd rfl (Or.inl rfl) (pe_callTy call_tuple_of (by rfl) T.c.tup boot_tuple (pa_cons
          (pe_lc (own := [("line", 6)]) (g := gName 6) (tt := tYes) (te := tCB (rTupL K) (tCons (tM1 rCut (tVar 6) (tC (.str toS))) tNil)) rfl scRead.nd (pi_list (pv 3)) (blkOk_by (N := nRead) (sc := defScope sRead) (by decide +kernel))
            (fun _ _ _ _ _ => pg_name (i := 6) scRead.nd rfl (Or.inl rfl)) (fun _ _ _ _ _ => pts_nil)
            (fun _ _ _ _ _ => pe_callTy call_tuple_of (by rfl) T.c.tup boot_tuple (pa_cons (pe_split (pv 6) pe_str) pa_nil))) pa_nil)))
        (pss_one (ps_try_thru0 (pss_one (ps_ret (pe_makeL (i := 0) M GI (hr.mono (by decide)) rfl (.inl rfl) bI .nil pass0 (pa_cons (pv 4) (pa_cons (pv 5) pa_nil))))))))))), ?_⟩
    refine ⟨_, rfl, _, _, _, _, true, rfl, .ty _, .base (.str _), kit_ty (by decide +kernel), _, rfl, iteF ?_⟩
    have pl := page_len ok rt few
    refine ⟨_, rfl, ⟨_, rfl⟩, _, _, rfl, rfl, nlS_some, by rw [sizeLine_eq]; omega, fun p1 h1 => ?_⟩
    have sp1 : (upd G p1 (.lst ((Txt.split (pageT xs ts) "\n").map V.str))) p1 = some (.lst (.str (Txt.join spS xs) :: (ts.map lineT).map V.str)) := by
      rw [upd_same]
      exact congrArg (fun z : List Str => some (HO.lst (z.map V.str))) (split_page ok rt)
    refine ⟨p1, .str (Txt.join spS xs), (ts.map lineT).map V.str, rfl, SqL.of sp1, by rw [List.length_map, List.length_map]; omega, fun D hD => ?_⟩
    have s1 : Same G (upd (upd G p1 (.lst ((Txt.split (pageT xs ts) "\n").map V.str))) D (.lst ((ts.map lineT).map V.str))) := ((Same.refl G).new h1).new hD
    have eD : (upd (upd G p1 (.lst ((Txt.split (pageT xs ts) "\n").map V.str))) D (.lst ((ts.map lineT).map V.str))) D = some (.lst ((ts.map lineT).map V.str)) := upd_same
    generalize (upd (upd G p1 (.lst ((Txt.split (pageT xs ts) "\n").map V.str))) D (.lst ((ts.map lineT).map V.str))) = G1 at s1 eD ⊢
    refine ⟨_, rfl, ⟨_, rfl⟩, _, _, rfl, rfl, spS_some, by have := heads_len ok; rw [sizeLine_eq]; omega, fun p2 h2 => ?_⟩
    have sp2 : (upd G1 p2 (.lst ((Txt.split (Txt.join spS xs) " ").map V.str))) p2 = some (.lst (xs.map V.str)) := by
      rw [upd_same]
      exact congrArg (fun z : List Str => some (HO.lst (z.map V.str))) (split_heads ok)
    refine ⟨p2, xs.map V.str, rfl, .inl ⟨SqL.of sp2, fun p hp => ?_⟩⟩
    have s2 : Same G1 (upd (upd G1 p2 (.lst ((Txt.split (Txt.join spS xs) " ").map V.str))) p (.tup (xs.map V.str))) := ((Same.refl G1).new h2).new hp
    have ep : (upd (upd G1 p2 (.lst ((Txt.split (Txt.join spS xs) " ").map V.str))) p (.tup (xs.map V.str))) p = some (.tup (xs.map V.str)) := upd_same
    generalize (upd (upd G1 p2 (.lst ((Txt.split (Txt.join spS xs) " ").map V.str))) p (.tup (xs.map V.str))) = G2 at s2 ep ⊢
    refine ⟨_, rfl, D, rfl, ⟨_, SqL.of (s2 _ _ eD)⟩, fun B hB => ?_⟩
    refine lc_list (K := K) (a := D) (xs := (ts.map lineT).map V.str) (fun i G' => ∃ L', Same G2 G' ∧ G' B = some (.lst (refs L')) ∧ (∀ e ∈ L', TieOk G' e) ∧ L'.map (fun t : Tie => t.2) = ts.take i)
      ⟨[], (Same.refl G2).new hB, upd_same, fun _ m => (List.not_mem_nil m).elim, rfl⟩ (fun i G' _ ⟨_, s, _⟩ => SqL.of (s _ _ (s2 _ _ eD))) ?_ ?_
    · rintro i y G3 hi ⟨L', s3, eB, ties, eq_⟩
      obtain ⟨e, he, rfl⟩ : ∃ e, ts[i]? = some e ∧ y = V.str (lineT e) := by
        rw [List.getElem?_map, List.getElem?_map] at hi
        cases c : ts[i]? with
        | none =>
          rw [c] at hi
          cases hi
        | some o =>
          rw [c] at hi
          exact ⟨o, rfl, (Option.some.inj hi).symm⟩
      have me := List.mem_of_getElem? he
      have ll := line_len ok (rt e me)
      have len : L'.length ≤ 64 := by
        have q := congrArg List.length eq_
        rw [List.length_map, List.length_take] at q
        omega
      refine ⟨rfl, _, rfl, ⟨_, rfl⟩, _, _, rfl, rfl, toS_some, by rw [sizeLine_eq]; omega, fun p3 h3 => ?_⟩
      have sp3 : (upd G3 p3 (.lst ((Txt.split (lineT e) toS).map V.str))) p3 = some (.lst [.str e.1, .str e.2]) := by
        rw [upd_same]
        exact congrArg (fun z : List Str => some (HO.lst (z.map V.str))) (split_line ok (rt e me))
      refine ⟨p3, [.str e.1, .str e.2], rfl, .inl ⟨SqL.of sp3, fun t ht => ?_⟩⟩
      have s4 : Same G3 (upd (upd G3 p3 (.lst ((Txt.split (lineT e) toS).map V.str))) t (.tup [.str e.1, .str e.2])) := ((Same.refl G3).new h3).new ht
      have et : (upd (upd G3 p3 (.lst ((Txt.split (lineT e) toS).map V.str))) t (.tup [.str e.1, .str e.2])) t = some (.tup [.str e.1, .str e.2]) := upd_same
      generalize (upd (upd G3 p3 (.lst ((Txt.split (lineT e) toS).map V.str))) t (.tup [.str e.1, .str e.2])) = G4 at s4 et ⊢
      have eB4 := s4 _ _ eB
      refine ⟨_, eB4, ?_, L' ++ [(t, e)], fun b u hb => ?_, ?_, fun z hz => ?_, ?_⟩
      · unfold refs
        rw [List.length_map]
        exact small1000 (by omega)
      · rw [upd_ne (ne_of_none hb hB)]
        exact s4 _ _ (s3 b u hb)
      · rw [upd_same]
        unfold refs
        rw [List.map_append]
        rfl
      · rcases List.mem_append.mp hz with hz | hz
        · have q := s4 _ _ (ties z hz)
          show upd G4 B _ z.1 = _
          rw [upd_ne (ne_of q eB4 nofun)]
          exact q
        · obtain rfl := List.mem_singleton.mp hz
          show upd G4 B _ t = _
          rw [upd_ne (ne_of et eB4 nofun)]
          exact et
      · rw [List.map_append, eq_, List.take_succ, he]
        rfl
    · rintro G3 ⟨L', s3, eB, ties, eq_⟩
      rw [List.length_map, List.length_map, List.take_length] at eq_
      refine ⟨B, refs L', rfl, .inl ⟨SqL.of eB, fun q hq => ?_⟩⟩
      have s4 : Same G3 (upd G3 q (.tup (refs L'))) := (Same.refl G3).new hq
      have tq : TiesAt K (upd G3 q (.tup (refs L'))) q L' := .mk' upd_same fun z hz => s4 _ _ (ties z hz)
      have all := (s3.trans s4)
      refine ⟨rfl, _, rfl, _, rfl, init_ok (SqT.of (all _ _ ep)) tq ok (way.roads eq_) fun x G5 s5 nx wk => ?_⟩
      exact fin G5 x p q L' (((s1.trans s2).trans all).trans s5) (Same.free (((s1.trans s2).trans all)) nx) wk eq_
end
end Fs

namespace Fs
open PySem PySem.Spec PyProof.Rows L2 _root_.TL
abbrev sPage : Stmt := (top 25)
abbrev nPage : List Str := ["_law_heads_here", "_law_roads_here", "_law_one", "_law_other"]
def spPage (K : PySem.W.Frag) : Sp := fun vs G Z _ => ∃ p q xs L, vs = [.ref p, .ref q] ∧ SqT K G p (xs.map V.str) ∧ TiesAt K G q L ∧ Valid xs ∧ Roads xs L ∧ ∀ G', Same G G' → Z (.str (pageT xs (L.map fun t : Tie => t.2))) G'
def rAddS : R2 := fun x y G Z => ∃ i j, x = .str i ∧ y = .str j ∧ i.length + j.length ≤ sizeLine ∧ Z (.str (i ++ j)) G
theorem op_addS {X : Cx} : OpR X (binaryOp .Add) rAddS := op_add_str
section
variable {P : Program} {w : World} {K : PySem.W.Frag} {mg : Str → Option Value} {base : Heap}
theorem scPage : FnScope nPage ["_law_heads_here", "_law_roads_here"] (defScope sPage) := ⟨rfl, rfl, rfl, by decide +kernel, rfl, by decide +kernel, by decide +kernel⟩
theorem ok_page {f : Addr} {fd : FuncData} (F : Fun K "_law_page" "_law_page" sPage f fd) : FnOk P w K mg base CX0 1 f fd ["_law_heads_here", "_law_roads_here"] (spPage K) := by
  refine F.ok scPage (fun vs G Z E h => ?_) (fun cdv A out st G vs Z E hr h => ?_)
  · obtain ⟨p, q, xs, L, rfl, _⟩ := h
    rfl
  · obtain ⟨p, q, xs, L, rfl, hp, hq, ok, rds, fin⟩ := h
    have rt := rds.right
    have few := few_roads ok rds
    have n3 : toS.length = 3 := by decide +kernel
    refine ⟨_, (pss_one (ps_ret (pe_join pe_str (pe_op op_cat (pe_lst (pa_cons (pe_join pe_str (pv 0)) pa_nil))
        (pe_lc (own := [("_law_one", 2), ("_law_other", 3)]) (g := gTup K 2 (gCons (gName 2) (gCons (gName 3) gNil))) (tt := tYes) (te := tOp rAddS (tOp rAddS (tVar 2) (tC (.str toS))) (tVar 3)) rfl scPage.nd (pi_tup (pv 1))
          (blkOk_by (N := nPage) (sc := defScope sPage) (by decide +kernel))
          (fun _ _ _ _ _ => pg_tup rfl (pgs_cons (pg_name (i := 2) scPage.nd rfl (Or.inl rfl)) (pgs_cons (pg_name (i := 3) scPage.nd rfl (Or.inl rfl)) pgs_nil))) (fun _ _ _ _ _ => pts_nil)
          (fun _ _ _ _ _ => pe_op op_addS (pe_op op_addS (pv 2) pe_str) (pv 3))))))), ?_⟩
    refine ⟨⟨_, rfl⟩, ⟨_, rfl⟩, _, rfl, spS, p, xs, rfl, rfl, .inr hp, heads_fits ok, by show 1 ≤ sizeLine; decide, fun l hl => ?_⟩
    have s1 : Same G (upd G l (.lst [.str (Txt.join spS xs)])) := (Same.refl G).new hl
    have el : (upd G l (.lst [.str (Txt.join spS xs)])) l = some (.lst [.str (Txt.join spS xs)]) := upd_same
    refine ⟨_, rfl, q, rfl, ⟨_, (hq.same s1).tup⟩, fun D hD => ?_⟩
    refine lc_tup (K := K) (a := q) (xs := refs L) (fun i G' => Same (upd G l (.lst [.str (Txt.join spS xs)])) G' ∧ G' D = some (.lst ((((L.map fun t : Tie => t.2).take i).map lineT).map V.str))) ⟨(Same.refl _).new hD, upd_same⟩ (fun i G' _ s => (hq.same (s1.trans s.1)).tup) ?_ ?_
    · rintro i y G1 hi ⟨s2, eD⟩
      obtain ⟨e, he, rfl⟩ : ∃ e, L[i]? = some e ∧ y = V.ref e.1 := by
        unfold refs at hi
        rw [List.getElem?_map] at hi
        cases c : L[i]? with
        | none =>
          rw [c] at hi
          cases hi
        | some o =>
          rw [c] at hi
          exact ⟨o, rfl, (Option.some.inj hi).symm⟩
      have me := List.mem_of_getElem? he
      have n1 : e.2.1.length ≤ 8 := name_small (ok.2.2.2 _ (rds.2 e me).1)
      have n2 : e.2.2.length ≤ 8 := name_small (ok.2.2.2 _ (rds.2 e me).2.1)
      refine ⟨e.1, _, rfl, (hq.same (s1.trans s2)).each e me, rfl, _, _, rfl, _, _, rfl, rfl, rfl, ?_⟩
      refine ⟨_, rfl, e.2.1, toS, rfl, rfl, by rw [sizeLine_eq]; omega, _, rfl, e.2.1 ++ toS, e.2.2, rfl, rfl, by rw [Str.length_append, sizeLine_eq]; omega, ?_⟩
      rw [line_eq2]
      refine ⟨_, eD, ?_, fun b u hb => ?_, ?_⟩
      · rw [List.length_map, List.length_map, List.length_take, List.length_map]
        exact small1000 (by omega)
      · rw [upd_ne (ne_of_none hb hD)]
        exact s2 b u hb
      · rw [upd_same, List.take_succ, List.getElem?_map, he, List.map_append, List.map_append]
        rfl
    · rintro G1 ⟨s2, eD⟩
      have full : (refs L).length = (L.map fun t : Tie => t.2).length := by
        unfold refs
        rw [List.length_map, List.length_map]
      rw [full, List.take_length] at eD
      refine ⟨l, D, _, _, rfl, rfl, s2 _ _ el, eD, ?_, fun r hr2 => ?_⟩
      · rw [List.length_map, List.length_map, List.length_map]
        show 1 + L.length ≤ sizeLine
        rw [sizeLine_eq]
        omega
      · exact ⟨nlS, r, pageL xs (L.map fun t : Tie => t.2), rfl, rfl, .inl (SqL.of upd_same), page_fits ok rt (by rw [List.length_map]; exact few), fin _ ((s1.trans s2).new hr2)⟩
end
end Fs

namespace Fs
open PySem PySem.Spec PyProof.Rows L2
abbrev sGetT : Stmt := (inClass (top 19) 3)
/-! ### what the class has -/
structure TM (K : PySem.W.Frag) (C fE fS fR pR pT fT : Addr) (mc : Value) : Prop where
  i : TI K C
  mks : PySem.W.makesIn K C = true
  nf : PySem.W.notFirst K C (.ref C) = true
  eqA : PySem.W.findIn K (.ref C) "__eq__" = some (some (.ref fE))
  eqF : PySem.W.isFn K (.ref fE) = true
  neA : PySem.W.findIn K (.ref C) "__ne__" = some (some (.builtin "object.__ne__"))
  strA : PySem.W.findIn K (.ref C) "__str__" = some (some (.ref fS))
  strF : PySem.W.isFn K (.ref fS) = true
  rd : ClX.CRead K C mc
  rm : ClX.CMet K C mc "read" pR fR
  tie : PropOf K C "ties" pT fT
/-! ### heaps in which lists may change -/
def Hold (G G' : Hp) : Prop := ∀ b o, (∀ xs, o ≠ .lst xs) → G b = some o → G' b = some o
theorem Hold.refl (G : Hp) : Hold G G := fun _ _ _ q => q
theorem Hold.trans {G G1 G2 : Hp} (a : Hold G G1) (b : Hold G1 G2) : Hold G G2 := fun c o n q => b c o n (a c o n q)
theorem Hold.of {G G' : Hp} (s : Same G G') : Hold G G' := fun b o _ q => s b o q
theorem Hold.grow {G G' : Hp} {j : Addr} {xs : List V} (h : G j = some (.lst xs)) (g : Grow j G G') : Hold G G' := fun b o n q => g b o (fun e => by
  rw [e, h] at q
  exact n xs (Option.some.inj q).symm) q
theorem Hold.jug {G G' : Hp} {j : Addr} (h : Jug G j) (g : Grow j G G') : Hold G G' := by
  obtain ⟨a, b, c, e, _⟩ := h
  exact Hold.grow e g
theorem Hold.put {G : Hp} {a : Addr} {xs : List V} {o : HO} (h : G a = some (.lst xs)) : Hold G (upd G a o) := Hold.grow h ((Grow.refl a G).at_)
theorem Hold.seqT {K : PySem.W.Frag} {G G' : Hp} {a : Addr} {xs : List V} (g : Hold G G') (h : SqT K G a xs) : SqT K G' a xs := by
  rcases h with (h | ⟨o, h⟩) | h
  · exact .inl (.inl (g _ _ nofun h))
  · exact .inl (.inr ⟨o, g _ _ nofun h⟩)
  · exact .inr h
theorem TiesAt.hold {K : PySem.W.Frag} {G G' : Hp} {q : Addr} {L : List Tie} (h : TiesAt K G q L) (g : Hold G G') : TiesAt K G' q L := ⟨g.seqT h.tup, fun e he => g.seqT (h.each e he)⟩
theorem WorksAt.hold {K : PySem.W.Frag} {C : Addr} {G G' : Hp} {x p q : Addr} {xs : List Str} {L : List Tie} (h : WorksAt K C G x p q xs L) (g : Hold G G') : WorksAt K C G' x p q xs L :=
  ⟨h.ins.imp fun _ e => g _ _ nofun e, g.seqT h.par, h.tie.hold g, h.ok, h.rds⟩
/-! ### rows: works, and the pair that they were made of -/
structure Row where
  x : Addr
  p : Addr
  q : Addr
  b : Addr
  xs : List Str
  L : List Tie
structure RowOk (K : PySem.W.Frag) (C : Addr) (G : Hp) (j A B : Addr) (r : Row) : Prop where
  wk : WorksAt K C G r.x r.p r.q r.xs r.L
  pair : G r.b = some (.lst [.ref r.p, .ref r.q])
  nj : r.b ≠ j
  nA : r.b ≠ A
  nB : r.b ≠ B
def Mv (j A B : Addr) (G G' : Hp) : Prop := Hold G G' ∧ ∀ c o, c ≠ j → c ≠ A → c ≠ B → G c = some o → G' c = some o
theorem Mv.refl {j A B : Addr} (G : Hp) : Mv j A B G G := ⟨Hold.refl G, fun _ _ _ _ _ q => q⟩
theorem Mv.trans {j A B : Addr} {G G1 G2 : Hp} (a : Mv j A B G G1) (b : Mv j A B G1 G2) : Mv j A B G G2 := ⟨a.1.trans b.1, fun c o n1 n2 n3 q => b.2 c o n1 n2 n3 (a.2 c o n1 n2 n3 q)⟩
theorem Mv.of {j A B : Addr} {G G' : Hp} (s : Same G G') : Mv j A B G G' := ⟨Hold.of s, fun c o _ _ _ q => s c o q⟩
theorem Mv.jug {j A B : Addr} {G G' : Hp} (h : Jug G j) (g : Grow j G G') : Mv j A B G G' := ⟨Hold.jug h g, fun c o n _ _ q => g c o n q⟩
theorem Mv.atA {j A B : Addr} {G : Hp} {xs : List V} {o : HO} (h : G A = some (.lst xs)) : Mv j A B G (upd G A o) := ⟨Hold.put h, fun c o _ n _ q => by rw [upd_ne n]; exact q⟩
theorem Mv.atB {j A B : Addr} {G : Hp} {xs : List V} {o : HO} (h : G B = some (.lst xs)) : Mv j A B G (upd G B o) := ⟨Hold.put h, fun c o _ _ n q => by rw [upd_ne n]; exact q⟩
theorem RowOk.mv {K : PySem.W.Frag} {C : Addr} {G G' : Hp} {j A B : Addr} {r : Row} (h : RowOk K C G j A B r) (m : Mv j A B G G') : RowOk K C G' j A B r :=
  ⟨h.wk.hold m.1, m.2 _ _ h.nj h.nA h.nB h.pair, h.nj, h.nA, h.nB⟩
/-! ### a pair as data -/
def rowD (r : Row) : PyData := .list [.tuple (r.xs.map PyData.str), .tuple ((r.L.map fun t : Tie => t.2).map tieD)]
theorem RowOk.dp {K : PySem.W.Frag} {C : Addr} {G : Hp} {j A B : Addr} {r : Row} (h : RowOk K C G j A B r) : Dp K G (.ref r.b) (rowD r) :=
  .lst (SqL.of h.pair) (.cons (.tup h.wk.par (dp_strs r.xs)) (.cons h.wk.tie.dp .nil))
theorem eqv_row (r s : Row) : PyData.eqv (rowD r) (rowD s) = decide (r.xs = s.xs ∧ (r.L.map fun t : Tie => t.2) = s.L.map fun t : Tie => t.2) := by
  unfold rowD
  simp only [PyData.eqv, PyData.eqvAll]
  rw [eqvAll_strs, eqvAll_ties, Bool.and_true, Bool.decide_and]
theorem fine_ties {xs : List Str} {L : List Tie} (ok : Valid xs) (rds : Roads xs L) : Fine (.tuple ((L.map fun t : Tie => t.2).map tieD)) 2 2000 := by
  have few := few_roads ok rds
  refine ((FineAll.of (a := 1) (u := 18) (n := 64) (fun d hd => ?_) (by rw [List.length_map, List.length_map]; exact few)).tup).mono (by decide) (by decide)
  obtain ⟨e, he, rfl⟩ := List.mem_map.mp hd
  have rt := rds.right e he
  have n1 := ok.2.2.2 _ rt.1
  have n2 := ok.2.2.2 _ rt.2
  exact (FineAll.cons (Fine.str (name_lay n1) (name_small n1)) (FineAll.cons (Fine.str (name_lay n2) (name_small n2)) FineAll.nil)).tup
theorem fine_row {C : Addr} {K : PySem.W.Frag} {G : Hp} {j A B : Addr} {r : Row} (h : RowOk K C G j A B r) : Fine (rowD r) 3 2075 :=
  (FineAll.cons ((fine_names h.wk.ok (fun _ m => m) h.wk.ok.2.1).mono (by decide) (Nat.le_refl 72)) (FineAll.cons (fine_ties h.wk.ok h.wk.rds) FineAll.nil)).list.mono (by decide) (by decide)
section
variable {P : Program} {w : World} {K : PySem.W.Frag} {mg : Str → Option Value} {base : Heap}
theorem scGetT : FnScope ["self"] ["self"] (defScope sGetT) := ⟨rfl, rfl, rfl, by decide +kernel, rfl, by decide +kernel, by decide +kernel⟩
theorem ok_getT {f C : Addr} {fd : FuncData} (F : Fun K "ties" "Works.ties" sGetT f fd) (T : TW K mg C) : FnOk P w K mg base CX0 1 f fd ["self"] (getSp C "_ties") := by
  obtain ⟨oc, od, kV, doc, pm, an, cdv, ct, osl, rfl, lk, code⟩ := F.ex
  exact fn_getter lk code scGetT rfl rfl T.cl T.nT
end
end Fs

namespace Fs
open PySem PySem.Spec PyProof.Rows L2
abbrev sLen : Stmt := (inClass (top 19) 5)
abbrev sGetP : Stmt := (inClass (top 19) 2)
/-- a call with keywords where no default is needed -/
theorem kb_all {K : PySem.W.Frag} {x qual : Str} {params : Arguments} {body : List Stmt} {scope : Scope} {dvs : List V} {f : Addr} {fd : FuncData} {ps : List Str} (F : FunD K x qual params body scope dvs [] f fd) (n : Nat) (ks : List Str) (g : {α : Type} → List α → List α → List α) (hd : dvs ≠ [])
    (hrel : ∀ {vs zs : List V} {us ws : List Value}, Vals vs us → Vals zs ws → Vals (g vs zs) (g us ws))
    (h : ∀ (T : Addr) (kV doc pm : Value) (an : Option Addr) (cdv ct : Value) (us its ws : List Value), us.length = n → its.length = dvs.length → ws.length = ks.length →
      ∃ k, bindArgs (PySem.W.fnOf x qual params body scope (.ref T) kV doc pm an cdv ct) ⟨us, ks.zip ws⟩ = seqItems? (.ref T) >>= k ∧ k (some its.toArray) = pure (ps.zip (g us ws))) :
    KBn K fd ps n ks (fun us ws => g us ws) (fun vs zs => g vs zs) := by
  obtain ⟨oc, od, dV, kV, doc, pm, an, cdv, ct, osl, rfl, lk, hcd, hD, hK⟩ := F.ex
  rcases hD with ⟨e, _⟩ | ⟨_, T, o, its, m, rfl, lT, oT, rT⟩
  · exact absurd e hd
  · refine ⟨fun s us ws X l1 l2 => ?_, fun r1 r2 => hrel r1 r2⟩
    obtain ⟨k, e1, e2⟩ := h T kV doc pm an cdv ct us its ws l1 rT.length.symm l2
    refine BindsTo.of_looks fun M => ?_
    rw [e1]
    exact looks_items X lT oT (.of_pure e2)
theorem vals_swap : ∀ {vs zs : List V} {us ws : List Value}, Vals vs us → Vals zs ws → Vals (vs ++ zs.reverse) (us ++ ws.reverse) := fun r1 r2 => r1.append r2.reverse
theorem Fine.small {n : Nat} (h : n ≤ 8) : Fine (.int (n : Int)) 0 8 := by
  have : n = 0 ∨ n = 1 ∨ n = 2 ∨ n = 3 ∨ n = 4 ∨ n = 5 ∨ n = 6 ∨ n = 7 ∨ n = 8 := by omega
  rcases this with rfl | rfl | rfl | rfl | rfl | rfl | rfl | rfl | rfl <;> exact ⟨rfl, by decide +kernel, by decide +kernel, by decide +kernel, by decide +kernel⟩
theorem join_ascii {y : Str} (hy : ∀ c ∈ y.cps.toList, c < 128) : ∀ {l : List Str}, (∀ z ∈ l, ∀ c ∈ z.cps.toList, c < 128) → ∀ c ∈ (Txt.join y l).cps.toList, c < 128
  | [], _ => fun c hc => by
    rw [_root_.TL.join_eq] at hc
    exact (List.not_mem_nil hc).elim
  | [a], h => fun c hc => by
    rw [_root_.TL.join_eq] at hc
    exact h a List.mem_cons_self c hc
  | a :: b :: r, h => fun c hc => by
    have ih := join_ascii hy (l := b :: r) fun z hz => h z (List.mem_cons_of_mem _ hz)
    rw [_root_.TL.join_eq] at ih hc
    have hc2 : c ∈ _root_.TL.tl (a ++ y ++ Str.join y (b :: r)) := hc
    rw [_root_.TL.tl_append, _root_.TL.tl_append] at hc2
    rcases List.mem_append.mp hc2 with m | m
    · rcases List.mem_append.mp m with m | m
      · exact h a List.mem_cons_self c m
      · exact hy c m
    · exact ih c m
theorem ascii_lay {z : Str} (h : ∀ c ∈ z.cps.toList, c < 128) : PyData.canLay0 (.str z) = true := by
  show z.cps.all _ = true
  rw [← Array.all_toList, List.all_eq_true]
  intro c hc
  have := h c hc
  exact decide_eq_true (by omega)
theorem sep_ascii {z : Str} (h : z.cps.toList.all (fun c => decide (c < 128)) = true) : ∀ c ∈ z.cps.toList, c < 128 := fun c hc => of_decide_eq_true (List.all_eq_true.mp h c hc)
theorem heads_ascii {xs : List Str} (ok : Valid xs) : ∀ c ∈ (Txt.join spS xs).cps.toList, c < 128 := join_ascii (sep_ascii (by decide +kernel)) fun z hz => name_ascii (ok.2.2.2 z hz)
theorem page_ascii {xs : List Str} {ts : List (Str × Str)} (ok : Valid xs) (h : Right xs ts) : ∀ c ∈ (pageT xs ts).cps.toList, c < 128 := by
  refine join_ascii (sep_ascii (by decide +kernel)) fun z hz => ?_
  rcases List.mem_cons.mp hz with rfl | hz
  · exact heads_ascii ok
  · obtain ⟨e, he, rfl⟩ := List.mem_map.mp hz
    refine join_ascii (sep_ascii (by decide +kernel)) fun z hz => ?_
    rcases List.mem_cons.mp hz with rfl | hz
    · exact name_ascii (ok.2.2.2 _ (h e he).1)
    · obtain rfl := List.mem_singleton.mp hz
      exact name_ascii (ok.2.2.2 _ (h e he).2)
def spLen (K : PySem.W.Frag) (C : Addr) : Sp := fun vs G Z _ => ∃ x p q xs L, vs = [.ref x] ∧ WorksAt K C G x p q xs L ∧ Z (.int (xs.length : Nat)) G
theorem no_ties {K : PySem.W.Frag} {G : Hp} {e : Addr} {od : Option Addr} {n : Nat} {sl : Array (Option Value)} (h : K.lookup e = some ⟨.type "tuple", od, .seq #[] n, sl⟩) : TiesAt K G e [] :=
  ⟨.inr ⟨_, #[], n, h, rfl, rfl, Nat.zero_le _, .nil⟩, fun _ m => (List.not_mem_nil m).elim⟩
theorem roads_nil {xs : List Str} : Roads xs [] := ⟨List.nodup_nil, fun _ m => (List.not_mem_nil m).elim⟩
section
variable {P : Program} {w : World} {K : PySem.W.Frag} {mg : Str → Option Value} {base : Heap}
theorem scLen : FnScope ["self"] ["self"] (defScope sLen) := ⟨rfl, rfl, rfl, by decide +kernel, rfl, by decide +kernel, by decide +kernel⟩
theorem ok_len {f C : Addr} {fd : FuncData} (F : Fun K "__len__" "Works.__len__" sLen f fd) (T : TW K mg C) : FnOk P w K mg base CX0 1 f fd ["self"] (spLen K C) := by
  refine F.ok scLen (fun vs G Z E h => ?_) (fun cdv A out st G vs Z E hr h => ?_)
  · obtain ⟨x, p, q, xs, L, rfl, _⟩ := h
    rfl
  · obtain ⟨x, p, q, xs, L, rfl, wk, fin⟩ := h
    obtain ⟨dx, hx⟩ := wk.ins
    refine ⟨_, (pss_one (ps_ret (pe_callB call_len_seq (by rfl) T.c.n.len PySem.boot_len (pa_cons (pe_fld (pv 0) rfl) pa_nil)))), ?_⟩
    refine ⟨_, rfl, x, C, dx, _, _, rfl, hx, T.cl, T.nP, wf_parts p q, p, _, rfl, .inr wk.par, ?_⟩
    rw [List.length_map]
    exact fin
theorem scGetP : FnScope ["self"] ["self"] (defScope sGetP) := ⟨rfl, rfl, rfl, by decide +kernel, rfl, by decide +kernel, by decide +kernel⟩
theorem ok_getP {f C : Addr} {fd : FuncData} (F : Fun K "parts" "Works.parts" sGetP f fd) (T : TW K mg C) : FnOk P w K mg base CX0 1 f fd ["self"] (getSp C "_parts") := by
  obtain ⟨oc, od, kV, doc, pm, an, cdv, ct, osl, rfl, lk, code⟩ := F.ex
  exact fn_getter lk code scGetP rfl rfl T.cl T.nP
end
end Fs

namespace Fs
open PySem PySem.Spec PyProof.Rows L2
theorem iteFe {b : Bool} {Y N : Prop} (h : b = false) (y : N) : if b = true then Y else N := by
  rw [h]
  exact iteF y
/-- works with these parts and ties, wherever they lie -/
def Like (K : PySem.W.Frag) (C : Addr) (G : Hp) (xs : List Str) (ts : List (Str × Str)) (x : Addr) : Prop := ∃ p q L, WorksAt K C G x p q xs L ∧ (L.map fun t : Tie => t.2) = ts
theorem Like.same {K : PySem.W.Frag} {C : Addr} {G G' : Hp} {xs : List Str} {ts : List (Str × Str)} {x : Addr} (h : Like K C G xs ts x) (s : Same G G') : Like K C G' xs ts x := by
  obtain ⟨p, q, L, wk, e⟩ := h
  exact ⟨p, q, L, wk.same s, e⟩
def toldD (xs : List Str) (ts : List (Str × Str)) : PyData :=
  .list [.tuple (xs.map PyData.str), .tuple (ts.map tieD), .int (xs.length : Nat), .str (pageT xs ts), .bool true, .bool true, .bool false]
def loneD (xs : List Str) : PyData := .list [.tuple [], .str (Txt.join spS xs), .bool true]
theorem fine_told {xs : List Str} {L : List Tie} (ok : Valid xs) (rds : Roads xs L) : Fine (toldD xs (L.map fun t : Tie => t.2)) 3 10000 := by
  have few := few_roads ok rds
  have pl := page_len ok rds.right (by rw [List.length_map]; exact few)
  refine (FineAll.cons ((fine_names ok (fun _ m => m) ok.2.1).mono (a' := 2) (by decide) (Nat.le_refl 72)) (FineAll.cons (fine_ties ok rds) (FineAll.cons ((Fine.small ok.2.1).mono (a' := 2) (by decide) (Nat.le_refl 8)) (FineAll.cons ((Fine.str (n := 4745) (ascii_lay (page_ascii ok rds.right)) pl).mono (a' := 2) (by decide) (Nat.le_refl _))
    (FineAll.cons ((Fine.bool true).mono (a' := 2) (by decide) (Nat.le_refl 0)) (FineAll.cons ((Fine.bool true).mono (a' := 2) (by decide) (Nat.le_refl 0)) (FineAll.cons ((Fine.bool false).mono (a' := 2) (by decide) (Nat.le_refl 0)) FineAll.nil))))))).list.mono (by decide) (by decide)
theorem fine_lone {xs : List Str} (ok : Valid xs) : Fine (loneD xs) 2 1000 :=
  (FineAll.cons (FineAll.nil (a := 0)).tup (FineAll.cons ((Fine.str (n := 72) (ascii_lay (heads_ascii ok)) (heads_len ok)).mono (a' := 1) (by decide) (Nat.le_refl _)) (FineAll.cons ((Fine.bool true).mono (a' := 1) (by decide) (Nat.le_refl 0)) FineAll.nil))).list.mono (by decide) (by decide)
theorem dpB {K : PySem.W.Frag} {G : Hp} {b c : Bool} (h : b = c) : Dp K G (.bl b) (.bool c) := h ▸ .bl b
theorem dpS {K : PySem.W.Frag} {G : Hp} {b c : Str} (h : b = c) : Dp K G (.str b) (.str c) := h ▸ .str b
theorem dpI {K : PySem.W.Frag} {G : Hp} {b c : Int} (h : b = c) : Dp K G (.int b) (.int c) := h ▸ .int b
theorem len_some {xs : List Str} (ok : Valid xs) : ((xs.length : Nat) : Int) != 0 := by
  have : xs.length ≠ 0 := fun e => ok.1 (List.length_eq_zero_iff.mp e)
  exact bne_iff_ne.mpr (by omega)
theorem told_dp {K : PySem.W.Frag} {H : Hp} {k p q : Addr} {xs : List Str} {ts : List (Str × Str)} {M : List Tie} {n : Int} {z : Str} {b1 b2 b3 : Bool} (e : H k = some (.lst [.ref p, .ref q, .int n, .str z, .bl b1, .bl b2, .bl b3])) (hp : SqT K H p (xs.map V.str)) (hq : TiesAt K H q M)
    (eM : (M.map fun t : Tie => t.2) = ts) (en : n = (xs.length : Nat)) (ez : z = pageT xs ts) (e1 : b1 = true) (e2 : b2 = true) (e3 : b3 = false) : Dp K H (.ref k) (toldD xs ts) := by
  have dq := hq.dp
  rw [eM] at dq
  exact .lst (SqL.of e) (.cons (.tup hp (dp_strs xs)) (.cons dq (.cons (dpI en) (.cons (dpS ez) (.cons (dpB e1) (.cons (dpB e2) (.cons (dpB e3) .nil)))))))
section
variable {P : Program} {w : World} {K : PySem.W.Frag} {mg : Str → Option Value} {base : Heap}
abbrev nRight : List Str := ["_law_jug_here", "_law_again", "_law_heads_here", "_law_roads_here", "_law_page_here", "_law_some", "_law_base", "_law_told", "_law_lone"]
theorem scRight : FnScope nRight ["_law_jug_here"] (defScope sRight) := ⟨rfl, rfl, rfl, by decide +kernel, rfl, by decide +kernel, by decide +kernel⟩
theorem ok_right {f fH fR fI fP C fE fS fD pR pT fT pP fPa fL eI : Addr} {fd fdH fdR fdI fdP fdE fdS fdD fdT fdPa fdL : FuncData} {mc : Value} {dsI : List Value} {odE : Option Addr} {nE : Nat} {slE : Array (Option Value)} (F : Fun K "_law_right" "_law_right" sRight f fd) (T : TL mg) (W : TW K mg C) (Y : TM K C fE fS fD pR pT fT mc)
    (bol : mg "bool" = none)
    (DH : DefAt K mg "_law_heads" ["_law_jug_here", "_law_most_here"] sHeads fH fdH) (GH : FnOk P w K mg base CX0 2 fH fdH ["_law_jug_here", "_law_most_here"] spHeads)
    (DR : DefAt K mg "_law_roads" ["_law_jug_here", "_law_heads_here"] sRoads fR fdR) (GR : FnOk P w K mg base CX0 2 fR fdR ["_law_jug_here", "_law_heads_here"] spRoads)
    (DP : DefAt K mg "_law_page" ["_law_heads_here", "_law_roads_here"] sPage fP fdP) (GP : FnOk P w K mg base CX0 1 fP fdP ["_law_heads_here", "_law_roads_here"] (spPage K))
    (M : Mk K C fI) (GI : FnOk P w K mg base CX0 4 fI fdI ["self", "parts", "ties"] (spInit K C)) (bI : Binds K fdI ["self", "parts", "ties"] [])
    (bI1 : Binds K fdI ["self", "parts", "ties"] dsI) (vI1 : Vals [V.ref eI] dsI) (lkE : K.lookup eI = some ⟨.type "tuple", odE, .seq #[] nE, slE⟩)
    (kI : KBn K fdI ["self", "parts", "ties"] 1 ["ties", "parts"] (fun us ws => us ++ ws.reverse) (fun vs zs => vs ++ zs.reverse))
    (kI2 : KBn K fdI ["self", "parts", "ties"] 1 ["parts", "ties"] (fun us ws => us ++ ws) (fun vs zs => vs ++ zs))
    (GE : FnOk P w K mg base CX0 1 fE fdE ["self", "other"] (spEq K C)) (bE : Binds K fdE ["self", "other"] [])
    (GS : FnOk P w K mg base CX0 1 fS fdS ["self"] (spStr K C)) (bS : Binds K fdS ["self"] [])
    (GD : FnOk P w K mg base CX0 6 fD fdD ["cls", "text"] (spRead K C)) (bD : Binds K fdD ["cls", "text"] []) (kD : KBn K fdD ["cls", "text"] 1 ["text"] (fun us ws => us ++ ws) (fun vs zs => vs ++ zs))
    (GT : FnOk P w K mg base CX0 1 fT fdT ["self"] (getSp C "_ties")) (bT : Binds K fdT ["self"] [])
    (par : PropOf K C "parts" pP fPa) (GPa : FnOk P w K mg base CX0 1 fPa fdPa ["self"] (getSp C "_parts")) (bPa : Binds K fdPa ["self"] [])
    (GL : FnOk P w K mg base CX0 1 fL fdL ["self"] (spLen K C)) (bL : Binds K fdL ["self"] []) (lA : PySem.W.findIn K (.ref C) "__len__" = some (some (.ref fL))) (lF : PySem.W.isFn K (.ref fL) = true) (lB : PySem.W.findIn K (.ref C) "__bool__" = some none) :
    FnG P w K mg base CX0 8 f fd ["_law_jug_here"] spRight := by
  refine FnG.mk' F scRight (fun vs G Z E h => ?_) (fun cdv A out st G vs Z E hr gs h => ?_)
  · obtain ⟨j, rfl, _⟩ := h
    rfl
  · obtain ⟨j, rfl, hj, fin⟩ := h
    have h1 : Room 1 _ := hr.mono (by decide)
    have h2 : Room 2 _ := hr.mono (by decide)
    have h3 : Room 3 _ := hr.mono (by decide)
    have h4 : Room 4 _ := hr.mono (by decide)
    have h5 : Room 5 _ := hr.mono (by decide)
    have ru : (cxOf CX0 P w K mg base nRight "_law_right" (defScope sRight) f cdv A out st G E).nox.A.units + 65 < cLine := by
      have := hr.un
      show (A.deeper _).units + 65 < cLine
      omega
    have rg : (cxOf CX0 P w K mg base nRight "_law_right" (defScope sRight) f cdv A out st G E).nox.A.guards = some [] := gs
    refine ⟨_, (pss_cons (ps_for PassesOwn.never rfl (pi_range1 rfl T.b.rng (pa_cons pe_int pa_nil)) (pg_name (i := 1) scRight.nd rfl (Or.inl rfl))
        (pss_cons (ps_set (i := 2) scRight.nd rfl (Or.inl rfl) (pe_call GH h2 rfl DH.gl DH.kp DH.bd .nil pass0 (pa_cons (pv 0) (pa_cons pe_int pa_nil))))
        (pss_cons (ps_set (i := 3) scRight.nd rfl (Or.inl rfl) (pe_call GR h2 rfl DR.gl DR.kp DR.bd .nil pass0 (pa_cons (pv 0) (pa_cons (pv 2) pa_nil))))
        (pss_cons (ps_set (i := 4) scRight.nd rfl (Or.inl rfl) (pe_call GP h1 rfl DP.gl DP.kp DP.bd .nil pass0 (pa_cons (pv 2) (pa_cons (pv 3) pa_nil))))
        (pss_cons (ps_set (i := 5) scRight.nd rfl (Or.inl rfl) (pe_lst (pa_cons (pe_make M GI h5 rfl W.mgC bI .nil pass0 (pa_cons (pv 2) (pa_cons (pv 3) pa_nil)))
            (pa_cons (pe_makeK0 M GI h5 rfl W.mgC kI pass0 (pk_cons (pv 3) (pk_cons (pv 2) pk_nil)))
            (pa_cons (ClX.pe_cmeth (pe_glob (v := .ref C) rfl W.mgC rfl) Y.rd Y.rm (GD.raw bD .nil) (hr.mono (by decide)) pass0 (pa_cons (pv 4) pa_nil))
            (pa_cons (pe_cmethKw (pe_glob (v := .ref C) rfl W.mgC rfl) Y.rd Y.rm GD (hr.mono (by decide)) kD pass0 (pk_cons (pv 4) pk_nil)) pa_nil))))))
        (pss_cons (ps_for PassesOwn.never rfl (pi_list (pv 5)) (pg_name (i := 6) scRight.nd rfl (Or.inl rfl))
          (pss_cons (ps_set (i := 7) scRight.nd rfl (Or.inl rfl) (pe_lst (pa_cons (pe_prop (pv 6) W.cl par GPa h2 bPa .nil pass0 rfl) (pa_cons (pe_prop (pv 6) W.cl Y.tie GT h2 bT .nil pass0 rfl)
              (pa_cons (pe_callB (call_lenOwn GL lA lF bL pass0 h2) (by rfl) T.b.len PySem.boot_len (pa_cons (pv 6) pa_nil))
              (pa_cons (pe_callTy (call_strOwn GS Y.strA Y.strF bS pass0 h3) (by rfl) W.c.n.str boot_str (pa_cons (pv 6) pa_nil))
              (pa_cons (pe_callTy (call_boolOwn GL lA lF lB bL pass0 h4) (by rfl) bol boot_bool (pa_cons (pv 6) pa_nil))
              (pa_cons (pe_cmpR (op_eqOwn GE Y.eqA Y.eqF bE pass0 h1) (pv 6) (pe_ix ix_list (pv 5) pe_int (fun _ _ => rfl)) (nomark _))
              (pa_cons (pe_cmpR (op_neOwn GE Y.mks Y.neA Y.eqA Y.eqF bE pass0 h2) (pv 6) (pe_ix ix_list (pv 5) pe_int (fun _ _ => rfl)) (nomark _)) pa_nil)))))))))
        (pss_one (ps_if (pt_cmpR op_ne (pe_callB (call_reprD ru rg) (by rfl) T.rep boot_repr (pa_cons (pv 7) pa_nil))
              (pe_callB (call_reprD ru rg) (by rfl) T.rep boot_repr (pa_cons (pe_lst (pa_cons (pv 2) (pa_cons (pv 3) (pa_cons (pe_callB call_len_seq (by rfl) T.b.len PySem.boot_len (pa_cons (pv 2) pa_nil)) (pa_cons (pv 4) (pa_cons pe_bl (pa_cons pe_bl (pa_cons pe_bl pa_nil)))))))) pa_nil)) (nomark _))
              (pss_one (ps_ret pe_bl)) pss_nil))))
        (pss_cons (ps_set (i := 8) scRight.nd rfl (Or.inl rfl) (pe_make M GI h5 rfl W.mgC bI1 vI1 pass0 (pa_cons (pv 2) pa_nil)))
        (pss_cons (ps_set (i := 7) scRight.nd rfl (Or.inl rfl) (pe_lst (pa_cons (pe_prop (pv 8) W.cl Y.tie GT h2 bT .nil pass0 rfl)
            (pa_cons (pe_callTy (call_strOwn GS Y.strA Y.strF bS pass0 h3) (by rfl) W.c.n.str boot_str (pa_cons (pv 8) pa_nil))
            (pa_cons (pe_cmpR (op_eqOwn GE Y.eqA Y.eqF bE pass0 h1) (pv 8) (pe_makeK0 M GI h5 rfl W.mgC kI2 pass0 (pk_cons (pv 2) (pk_cons (pe_tup pa_nil) pk_nil))) (nomark _)) pa_nil)))))
        (pss_one (ps_if (pt_cmpR op_ne (pe_callB (call_reprD ru rg) (by rfl) T.rep boot_repr (pa_cons (pv 7) pa_nil))
            (pe_callB (call_reprD ru rg) (by rfl) T.rep boot_repr (pa_cons (pe_lst (pa_cons (pe_tup pa_nil) (pa_cons (pe_join pe_str (pv 2)) (pa_cons pe_bl pa_nil)))) pa_nil)) (nomark _))
            (pss_one (ps_ret pe_bl)) pss_nil))))))))))
        (pss_one (ps_ret pe_bl))), ?_⟩
    refine ⟨5, rfl, by decide, by decide, for_range (lo := 0) (n := 5) (fun i σ G' => ∃ v1 v2 v3 v4 v5 v6 v7 v8 : Option V, σ = [some (.ref j), v1, v2, v3, v4, v5, v6, v7, v8] ∧ Jug G' j ∧ Grow j G G')
      ⟨_, _, _, _, _, _, _, _, rfl, hj, Grow.refl j G⟩ ?_ ?_⟩
    · rintro i σ G1 hi ⟨v1, v2, v3, v4, v5, v6, v7, v8, rfl, hj1, g1⟩
      refine ⟨_, rfl, j, 8, rfl, hj1, by decide, by decide, fun G2 p xs hd len np ep hj2 g2 => ?_⟩
      refine ⟨_, rfl, _, rfl, j, p, xs, rfl, hj2, ep, hd.2.1, by omega, fun G3 q L rds few nq eq_ ties hj3 g3 => ?_⟩
      have ok : Valid xs := heads_valid hd (by omega)
      have pj : p ≠ j := hj2.ne_tup ep
      have hp3 : SqT K G3 p (xs.map V.str) := SqT.of (g3 _ _ pj ep)
      have hq3 : TiesAt K G3 q L := TiesAt.mk' eq_ ties
      refine ⟨_, rfl, _, rfl, p, q, xs, L, rfl, hp3, hq3, ok, rds, fun G4 s4 => ?_⟩
      refine ⟨_, rfl, _, rfl, init_ok (Evl.ex_t s4 hp3) (hq3.same s4) ok rds fun a1 G5 s5 n1 w1 => ?_⟩
      have s35 := s4.trans s5
      refine ⟨_, rfl, _, rfl, rfl, rfl, init_ok (Evl.ex_t s35 hp3) (hq3.same s35) ok rds fun a2 G6 s6 n2 w2 => ?_⟩
      refine ⟨rfl, _, rfl, xs, _, rfl, ok, rds.way, fun G7 a3 p3 q3 L3 s7 n3 w3 e3 => ?_⟩
      refine ⟨rfl, _, rfl, rfl, xs, _, rfl, ok, rds.way, fun G8 a4 p4 q4 L4 s8 n4 w4 e4 => ⟨by show 4 ≤ sizeLine; decide, fun B hB => ?_⟩⟩
      have s9 : Same G8 (upd G8 B (.lst [.ref a1, .ref a2, .ref a3, .ref a4])) := (Same.refl G8).new hB
      have eB : (upd G8 B (.lst [.ref a1, .ref a2, .ref a3, .ref a4])) B = some (.lst [.ref a1, .ref a2, .ref a3, .ref a4]) := upd_same
      generalize (upd G8 B (.lst [.ref a1, .ref a2, .ref a3, .ref a4])) = G9 at s9 eB ⊢
      have s59 : Same G5 G9 := ((s6.trans s7).trans s8).trans s9
      have s39 : Same G3 G9 := s35.trans s59
      have w19 := w1.same s59
      have like : ∀ a ∈ [a1, a2, a3, a4], Like K C G9 xs (L.map fun t : Tie => t.2) a := by
        intro a ha
        simp only [List.mem_cons, List.not_mem_nil, or_false] at ha
        rcases ha with rfl | rfl | rfl | rfl
        · exact ⟨p, q, L, w19, rfl⟩
        · exact ⟨p, q, L, w2.same ((s7.trans s8).trans s9), rfl⟩
        · exact ⟨p3, q3, L3, w3.same (s8.trans s9), e3⟩
        · exact ⟨p4, q4, L4, w4.same s9, e4⟩
      obtain ⟨d1, hd1⟩ := w19.ins
      have ft := fine_told ok rds
      refine ⟨_, rfl, B, rfl, ⟨_, SqL.of eB⟩, for_list (K := K) (a := B) (xs := [.ref a1, .ref a2, .ref a3, .ref a4]) (fun i σ G' => ∃ (va v6 v7 : Option V), σ = [some (.ref j), va, some (.ref p), some (.ref q), some (.str (pageT xs (L.map fun t : Tie => t.2))), some (.ref B), v6, v7, v8] ∧ Same G9 G')
        ⟨_, _, _, rfl, Same.refl G9⟩ (fun i σ G' _ ⟨_, _, _, _, s⟩ => SqL.of (s _ _ eB)) ?_ ?_⟩
      · rintro n x σ Ga hx ⟨va, v6, v7, rfl, sa⟩
        obtain ⟨a, ma, rfl⟩ : ∃ a, a ∈ [a1, a2, a3, a4] ∧ x = V.ref a := by
          have mx := List.mem_of_getElem? hx
          simp only [List.mem_cons, List.not_mem_nil, or_false] at mx
          rcases mx with rfl | rfl | rfl | rfl
          · exact ⟨a1, by simp, rfl⟩
          · exact ⟨a2, by simp, rfl⟩
          · exact ⟨a3, by simp, rfl⟩
          · exact ⟨a4, by simp, rfl⟩
        obtain ⟨pa, qa, La, wa, ea⟩ := (like a ma).same sa
        obtain ⟨dx, hdx⟩ := wa.ins
        have bound : (0 : Int) ≤ (xs.length : Nat) ∧ ((xs.length : Nat) : Int) < 2 ^ 63 := by
          have := ok.2.1
          omega
        refine ⟨_, rfl, a, dx, _, rfl, hdx, a, dx, _, .ref pa, rfl, hdx, wf_parts pa qa, _, rfl, a, dx, _, rfl, hdx, a, dx, _, .ref qa, rfl, hdx, wf_ties pa qa, ?_⟩
        refine ⟨_, rfl, a, dx, _, rfl, hdx, a, pa, qa, xs, La, rfl, wa, _, rfl, bound, ?_⟩
        refine ⟨_, rfl, a, dx, _, rfl, hdx, a, pa, qa, xs, La, rfl, wa, fun Gb sb => ⟨_, rfl, ?_⟩⟩
        have wb := wa.same sb
        have hdb := sb _ _ hdx
        have s9b := sa.trans sb
        refine ⟨_, rfl, a, dx, _, rfl, hdb, a, pa, qa, xs, La, rfl, wb, _, rfl, bound, _, rfl, ?_⟩
        refine ⟨_, rfl, _, rfl, B, _, 0, _, rfl, rfl, SqL.of (s9b _ _ eB), rfl, a, dx, _, .ref C, rfl, hdb, Y.i.ty W (s9b _ _ hd1), Y.nf, a, pa, qa, xs, La, .ref a1, rfl, wb, .inr ⟨a1, p, q, xs, L, rfl, w19.same s9b, _, rfl, ?_⟩⟩
        refine ⟨_, rfl, _, rfl, B, _, 0, _, rfl, rfl, SqL.of (s9b _ _ eB), rfl, a, dx, _, .ref C, rfl, hdb, Y.i.ty W (s9b _ _ hd1), Y.nf, a, pa, qa, xs, La, .ref a1, rfl, wb, .inr ⟨a1, p, q, xs, L, rfl, w19.same s9b, _, rfl, by show 7 ≤ sizeLine; decide, fun t ht => ?_⟩⟩
        have same1 : decide (xs = xs ∧ (La.map fun t : Tie => t.2) = L.map fun t : Tie => t.2) = true := decide_eq_true ⟨rfl, ea⟩
        have sc : Same Gb (upd Gb t (.lst [.ref pa, .ref qa, .int (xs.length : Nat), .str (pageT xs (La.map fun t : Tie => t.2)), .bl (((xs.length : Nat) : Int) != 0), .bl (decide (xs = xs ∧ (La.map fun t : Tie => t.2) = L.map fun t : Tie => t.2) != false), .bl (decide (xs = xs ∧ (La.map fun t : Tie => t.2) = L.map fun t : Tie => t.2) != true)])) := (Same.refl Gb).new ht
        have et : (upd Gb t (.lst [.ref pa, .ref qa, .int (xs.length : Nat), .str (pageT xs (La.map fun t : Tie => t.2)), .bl (((xs.length : Nat) : Int) != 0), .bl (decide (xs = xs ∧ (La.map fun t : Tie => t.2) = L.map fun t : Tie => t.2) != false), .bl (decide (xs = xs ∧ (La.map fun t : Tie => t.2) = L.map fun t : Tie => t.2) != true)])) t = _ := upd_same
        generalize (upd Gb t (.lst [.ref pa, .ref qa, .int (xs.length : Nat), .str (pageT xs (La.map fun t : Tie => t.2)), .bl (((xs.length : Nat) : Int) != 0), .bl (decide (xs = xs ∧ (La.map fun t : Tie => t.2) = L.map fun t : Tie => t.2) != false), .bl (decide (xs = xs ∧ (La.map fun t : Tie => t.2) = L.map fun t : Tie => t.2) != true)])) = Gc at sc et ⊢
        have d1 : Dp K Gc (.ref t) (toldD xs (L.map fun t : Tie => t.2)) := told_dp et (wb.same sc).par (wb.same sc).tie ea rfl (by rw [ea]) (len_some ok) (by rw [same1]; rfl) (by rw [same1]; rfl)
        refine ⟨_, rfl, t, toldD xs (L.map fun t : Tie => t.2), rfl, d1, ft.sho, ft.shaped (by decide), ft.fits (by decide) (by decide), ?_⟩
        have s9c := s9b.trans sc
        have hp9 := Evl.ex_t (s39.trans s9c) hp3
        have hq9 := hq3.same (s39.trans s9c)
        refine ⟨_, rfl, _, rfl, _, rfl, p, _, rfl, .inr hp9, _, rfl, by show 7 ≤ sizeLine; decide, fun u hu => ?_⟩
        have sd : Same Gc (upd Gc u (.lst [.ref p, .ref q, .int ((xs.map V.str).length : Nat), .str (pageT xs (L.map fun t : Tie => t.2)), .bl true, .bl true, .bl false])) := (Same.refl Gc).new hu
        have eu : (upd Gc u (.lst [.ref p, .ref q, .int ((xs.map V.str).length : Nat), .str (pageT xs (L.map fun t : Tie => t.2)), .bl true, .bl true, .bl false])) u = _ := upd_same
        generalize (upd Gc u (.lst [.ref p, .ref q, .int ((xs.map V.str).length : Nat), .str (pageT xs (L.map fun t : Tie => t.2)), .bl true, .bl true, .bl false])) = Gd at sd eu ⊢
        have d2 : Dp K Gd (.ref u) (toldD xs (L.map fun t : Tie => t.2)) := told_dp eu (Evl.ex_t sd hp9) (hq9.same sd) rfl (by rw [List.length_map]) rfl rfl rfl rfl
        refine ⟨u, toldD xs (L.map fun t : Tie => t.2), rfl, d2, ft.sho, ft.shaped (by decide), ft.fits (by decide) (by decide), rfl, _, rfl, ?_⟩
        rw [decide_eq_true rfl]
        exact iteF ⟨_, _, _, rfl, s9c.trans sd⟩
      · rintro σ Ga ⟨va, v6, v7, rfl, sa⟩
        have s3a := s39.trans sa
        have hpa := Evl.ex_t s3a hp3
        refine ⟨_, rfl, init_ok hpa (no_ties lkE) ok roads_nil fun l Gb sb nl wl => ?_⟩
        obtain ⟨dl, hdl⟩ := wl.ins
        refine ⟨_, rfl, l, dl, _, rfl, hdl, l, dl, _, .ref eI, rfl, hdl, wf_ties p eI, ?_⟩
        refine ⟨_, rfl, l, dl, _, rfl, hdl, l, p, eI, xs, [], rfl, wl, fun Gc sc => ⟨_, rfl, ?_⟩⟩
        have hpc := Evl.ex_t (sb.trans sc) hpa
        refine ⟨_, rfl, _, rfl, Nat.zero_le _, fun e he => ⟨rfl, rfl, ?_⟩⟩
        have se : Same Gc (upd Gc e (.tup [])) := (Same.refl Gc).new he
        have te : TiesAt K (upd Gc e (.tup [])) e [] := ⟨SqT.of upd_same, fun _ m => (List.not_mem_nil m).elim⟩
        refine init_ok (Evl.ex_t se hpc) te ok roads_nil fun m Gd sd nm wm => ?_
        obtain ⟨dm, hdm⟩ := wm.ins
        have wld := wl.same ((sc.trans se).trans sd)
        refine ⟨l, dl, _, .ref C, rfl, ((sc.trans se).trans sd) _ _ hdl, Y.i.ty W hdm, Y.nf, l, p, eI, xs, [], .ref m, rfl, wld, .inr ⟨m, p, e, xs, [], rfl, wm, _, rfl, by show 3 ≤ sizeLine; decide, fun t ht => ?_⟩⟩
        have fl := fine_lone ok
        have same2 : decide (xs = xs ∧ (([] : List Tie).map fun t : Tie => t.2) = ([] : List Tie).map fun t : Tie => t.2) = true := decide_eq_true ⟨rfl, rfl⟩
        have sf : Same Gd (upd Gd t (.lst [.ref eI, .str (pageT xs (([] : List Tie).map fun t : Tie => t.2)), .bl (decide (xs = xs ∧ (([] : List Tie).map fun t : Tie => t.2) = ([] : List Tie).map fun t : Tie => t.2) != false)])) := (Same.refl Gd).new ht
        have ef : (upd Gd t (.lst [.ref eI, .str (pageT xs (([] : List Tie).map fun t : Tie => t.2)), .bl (decide (xs = xs ∧ (([] : List Tie).map fun t : Tie => t.2) = ([] : List Tie).map fun t : Tie => t.2) != false)])) t = _ := upd_same
        generalize (upd Gd t (.lst [.ref eI, .str (pageT xs (([] : List Tie).map fun t : Tie => t.2)), .bl (decide (xs = xs ∧ (([] : List Tie).map fun t : Tie => t.2) = ([] : List Tie).map fun t : Tie => t.2) != false)])) = Gf at sf ef ⊢
        have d1 : Dp K Gf (.ref t) (loneD xs) := .lst (SqL.of ef) (.cons (.tup (no_ties lkE).tup .nil) (.cons (dpS rfl) (.cons (dpB (by rw [same2]; rfl)) .nil)))
        refine ⟨_, rfl, t, loneD xs, rfl, d1, fl.sho, fl.shaped (by decide), fl.fits (by decide) (by decide), ?_⟩
        refine ⟨Nat.zero_le _, fun u hu => ?_⟩
        have su : Same Gf (upd Gf u (.tup [])) := (Same.refl Gf).new hu
        have eu : (upd Gf u (.tup [])) u = some (.tup []) := upd_same
        generalize (upd Gf u (.tup [])) = Gu at su eu ⊢
        have sall := (((sc.trans se).trans sd).trans sf).trans su
        refine ⟨⟨_, rfl⟩, _, rfl, spS, p, xs, rfl, rfl, .inr (Evl.ex_t (sb.trans sall) hpa), heads_fits ok, by show 3 ≤ sizeLine; decide, fun y hy => ?_⟩
        have sy : Same Gu (upd Gu y (.lst [.ref u, .str (Txt.join spS xs), .bl true])) := (Same.refl Gu).new hy
        have ey : (upd Gu y (.lst [.ref u, .str (Txt.join spS xs), .bl true])) y = some (.lst [.ref u, .str (Txt.join spS xs), .bl true]) := upd_same
        have d2 : Dp K (upd Gu y (.lst [.ref u, .str (Txt.join spS xs), .bl true])) (.ref y) (loneD xs) := .lst (SqL.of ey) (.cons (.tup (SqT.of (sy _ _ eu)) .nil) (.cons (.str _) (.cons (.bl _) .nil)))
        refine ⟨y, loneD xs, rfl, d2, fl.sho, fl.shaped (by decide), fl.fits (by decide) (by decide), rfl, _, rfl, ?_⟩
        rw [decide_eq_true rfl]
        have s3y := (s3a.trans (sb.trans sall)).trans sy
        exact iteF ⟨_, _, _, _, _, _, _, _, rfl, hj3.same s3y, ((g1.trans g2).trans g3).trans (Grow.of s3y)⟩
    · rintro σ G1 ⟨v1, v2, v3, v4, v5, v6, v7, v8, rfl, hj1, g1⟩
      exact fin _ hj1 g1
end
end Fs

namespace Fs
open PySem PySem.Spec PyProof.Rows L2
def spLaw (K : PySem.W.Frag) : Sp := fun vs G Z _ => ∃ a ns, vs = [.ref a] ∧ ns.length ≤ 63 ∧ SqL K G a (List.map V.int ns) ∧ ∀ G', Z (.bl true) G'
section
variable {P : Program} {w : World} {K : PySem.W.Frag} {mg : Str → Option Value} {base : Heap}
theorem scQuiet : FnScope ["_law_jug_here", "_law_is_right"] ["_law_jug_here"] (defScope sQuiet) := ⟨rfl, rfl, rfl, by decide +kernel, rfl, by decide +kernel, by decide +kernel⟩
theorem ok_quiet {n : Nat} {f fR : Addr} {fd fdR : FuncData} (F : Fun K "_law_quiet" "_law_quiet" sQuiet f fd) (DR : DefAt K mg "_law_right" ["_law_jug_here"] sRight fR fdR)
    (GR : FnG P w K mg base CX0 n fR fdR ["_law_jug_here"] spRight) : FnG P w K mg base CX0 (n + 1) f fd ["_law_jug_here"] spRight := by
  refine FnG.mk' F scQuiet (fun vs G Z E h => ?_) (fun cdv A out st G vs Z E hr gs h => ?_)
  · obtain ⟨j, rfl, _⟩ := h
    rfl
  · obtain ⟨j, rfl, hj, fin⟩ := h
    refine ⟨_, (pss_cons (ps_try_thru0 (pss_one (ps_set (i := 1) scQuiet.nd rfl (Or.inl rfl) (pe_callG GR hr (by exact gs) rfl DR.gl DR.kp DR.bd .nil pass0 (pa_cons (pv 0) pa_nil)))))
        (pss_one (ps_ret (pv 1)))), ?_⟩
    exact ⟨_, rfl, j, rfl, hj, fun G' hj' g => ⟨_, rfl, fin G' hj' g⟩⟩
theorem scLaw : FnScope ["_law_script", "_law_at"] ["_law_script"] (defScope sLaw) := ⟨rfl, rfl, rfl, by decide +kernel, rfl, by decide +kernel, by decide +kernel⟩
theorem ok_law {n : Nat} {f fQ fJ : Addr} {fd fdQ fdJ : FuncData} (F : Fun K "law" "law" sLaw f fd) (T : TL mg) (DQ : DefAt K mg "_law_quiet" ["_law_jug_here"] sQuiet fQ fdQ) (GQ : FnG P w K mg base CX0 (n + 1) fQ fdQ ["_law_jug_here"] spRight)
    (DJ : DefAt K mg "_law_jug" ["_law_script", "_law_at"] sJug fJ fdJ) : FnG P w K mg base CX0 (n + 2) f fd ["_law_script"] (spLaw K) := by
  have GJ : FnOk P w K mg base CX0 1 fJ fdJ ["_law_script", "_law_at"] (spJug K) := ok_jug DJ.fn T.b
  refine FnG.mk' F scLaw (fun vs G Z E h => ?_) (fun cdv A out st G vs Z E hr gs h => ?_)
  · obtain ⟨a, ns, rfl, _⟩ := h
    rfl
  · obtain ⟨a, ns, rfl, few, hS, fin⟩ := h
    refine ⟨_, (pss_one (ps_ret (pe_callB (cr_all rfl) (by rfl) T.all boot_all (pa_cons (pe_lc (own := [("_law_at", 1)]) (g := gName 1) (tt := tYes) (te := tCall spRight [] E0 (tCons (tCall (spJug K) [] E0 (tCons (tVar 0) (tCons (tVar 1) tNil))) tNil)) rfl scLaw.nd
        (pi_range1 rfl T.b.rng (pa_cons (pe_callB (call_max2 rfl) (by rfl) T.max boot_max (pa_cons pe_int (pa_cons (pe_callB (call_min2 rfl) (by rfl) T.min boot_min (pa_cons (pe_callB call_len_seq (by rfl) T.b.len PySem.boot_len (pa_cons (pv 0) pa_nil)) (pa_cons pe_int pa_nil))) pa_nil))) pa_nil))
        (blkOk_by (N := ["_law_script", "_law_at"]) (sc := defScope sLaw) (by decide +kernel)) (fun _ _ _ _ _ => pg_name (i := 1) scLaw.nd rfl (Or.inl rfl)) (fun _ _ _ _ _ => pts_nil)
        (fun _ _ _ _ _ => pe_callG GQ hr (by exact gs) rfl DQ.gl DQ.kp DQ.bd .nil pass0 (pa_cons (pe_call GJ (hr.mono (by omega)) rfl DJ.gl DJ.kp DJ.bd .nil pass0 (pa_cons (pv 0) (pa_cons (pv 1) pa_nil))) pa_nil))) pa_nil)))), ?_⟩
    have lenS : ((ns.map V.int).length : Int) = ns.length := by rw [List.length_map]
    refine ⟨_, rfl, a, _, rfl, .inl hS, _, _, rfl, _, _, rfl, _, rfl, ?_, ?_, fun D hD => ?_⟩
    · split <;> split <;> omega
    · split <;> split <;> omega
    · generalize hn : (if (if (5 : Int) < ((ns.map V.int).length : Nat) then (5 : Int) else ((ns.map V.int).length : Nat)) > 2 then (if (5 : Int) < ((ns.map V.int).length : Nat) then (5 : Int) else ((ns.map V.int).length : Nat)) else (2 : Int)) = m
      have m5 : m.toNat ≤ 5 := by
        rw [← hn]
        split <;> split <;> omega
      refine lc_range (lo := 0) (n := m.toNat) (fun i G' => Same G G' ∧ G' D = some (.lst ((List.replicate i true).map V.bl))) ⟨(Same.refl G).new hD, upd_same⟩ ?_ ?_
      · rintro i G1 hi ⟨s1, eD⟩
        refine ⟨rfl, _, rfl, _, rfl, a, _, ns, rfl, Evl.ex_l s1 hS, by omega, fun G2 j nj hj2 s2 => ⟨j, rfl, hj2, fun G3 hj3 g3 => ?_⟩⟩
        have Dj : D ≠ j := ne_of_none eD nj
        refine ⟨_, g3 _ _ Dj (s2 _ _ eD), ?_, fun b o hb => ?_, ?_⟩
        · rw [List.length_map, List.length_replicate]
          exact small1000 (by omega)
        · have b1 := s1 b o hb
          rw [upd_ne (ne_of_none hb hD)]
          exact g3 _ _ (ne_of_none b1 nj) (s2 _ _ b1)
        · rw [upd_same]
          show some (HO.lst ((List.replicate i true).map V.bl ++ [true].map V.bl)) = _
          rw [← List.map_append, ← List.replicate_succ']
      · rintro G1 ⟨s1, eD⟩
        refine ⟨D, List.replicate m.toNat true, rfl, SqL.of eD, ?_⟩
        have all : (List.replicate m.toNat true).all id = true := by
          rw [List.all_eq_true]
          intro x hx
          exact (List.mem_replicate.mp hx).2
        rw [all]
        exact fin G1
end
end Fs

namespace Fs
open PySem PySem.Spec PyProof.Rows L2
abbrev NLAW : Nat := 10
theorem kb_read {K : PySem.W.Frag} {f : Addr} {fd : FuncData} (F : Fun K "read" "Works.read" sRead f fd) : KBn K fd ["cls", "text"] 1 ["text"] (fun us ws => us ++ ws) (fun vs zs => vs ++ zs) := by
  obtain ⟨oc, od, kV, doc, pm, an, cdv, ct, osl, rfl, _, _⟩ := F.ex
  exact ⟨fun s us ws _ h1 h2 => match us, ws, h1, h2 with | [_], [_], _, _ => .of_eq rfl, fun r1 r2 => r1.append r2⟩
theorem all_mk {l : PySem.W.OpenLaw} {w : World} {K : PySem.W.Frag} {h : Heap} {mg : Str → Option Value} {fa : Addr} (X : K.In h) (G : h.Ns mainGlobals mg) (hfa : mg "law" = some (.ref fa))
    {fSip : Addr} {odSip anSip : Option Addr} {slSip : Array (Option Value)} {ocSip kVSip dcSip pmSip cdSip ctSip : Value}
    {fJug : Addr} {odJug anJug : Option Addr} {slJug : Array (Option Value)} {ocJug kVJug dcJug pmJug cdJug ctJug : Value}
    {fHds : Addr} {odHds anHds : Option Addr} {slHds : Array (Option Value)} {ocHds kVHds dcHds pmHds cdHds ctHds : Value}
    {fRds : Addr} {odRds anRds : Option Addr} {slRds : Array (Option Value)} {ocRds kVRds dcRds pmRds cdRds ctRds : Value}
    {fPge : Addr} {odPge anPge : Option Addr} {slPge : Array (Option Value)} {ocPge kVPge dcPge pmPge cdPge ctPge : Value}
    {fNam : Addr} {odNam anNam : Option Addr} {slNam : Array (Option Value)} {ocNam kVNam dcNam pmNam cdNam ctNam : Value}
    {fAmg : Addr} {odAmg anAmg : Option Addr} {slAmg : Array (Option Value)} {ocAmg kVAmg dcAmg pmAmg cdAmg ctAmg : Value}
    {fPrt : Addr} {odPrt anPrt : Option Addr} {slPrt : Array (Option Value)} {ocPrt kVPrt dcPrt pmPrt cdPrt ctPrt : Value}
    {fPai : Addr} {odPai anPai : Option Addr} {slPai : Array (Option Value)} {ocPai kVPai dcPai pmPai cdPai ctPai : Value}
    {fTie : Addr} {odTie anTie : Option Addr} {slTie : Array (Option Value)} {ocTie kVTie dcTie pmTie cdTie ctTie : Value}
    {fRgt : Addr} {odRgt anRgt : Option Addr} {slRgt : Array (Option Value)} {ocRgt kVRgt dcRgt pmRgt cdRgt ctRgt : Value}
    {fQui : Addr} {odQui anQui : Option Addr} {slQui : Array (Option Value)} {ocQui kVQui dcQui pmQui cdQui ctQui : Value}
    {fLaw : Addr} {odLaw anLaw : Option Addr} {slLaw : Array (Option Value)} {ocLaw kVLaw dcLaw pmLaw cdLaw ctLaw : Value}
    {C : Addr}
    {fIni : Addr} {odIni anIni : Option Addr} {slIni : Array (Option Value)} {ocIni kVIni dcIni pmIni cdIni ctIni : Value}
    {TIni eIni : Addr} {odTIni : Option Addr} {ocTIni : Value} {nTIni : Nat} {slTIni : Array (Option Value)}
    {fEqs : Addr} {odEqs anEqs : Option Addr} {slEqs : Array (Option Value)} {ocEqs kVEqs dcEqs pmEqs cdEqs ctEqs : Value}
    {fStr : Addr} {odStr anStr : Option Addr} {slStr : Array (Option Value)} {ocStr kVStr dcStr pmStr cdStr ctStr : Value}
    {fLns : Addr} {odLns anLns : Option Addr} {slLns : Array (Option Value)} {ocLns kVLns dcLns pmLns cdLns ctLns : Value}
    {pTis fTis : Addr} {odTis anTis : Option Addr} {slTis : Array (Option Value)} {ocTis kVTis dcTis pmTis cdTis ctTis : Value} {restTis : List Value}
    {pPas fPas : Addr} {odPas anPas : Option Addr} {slPas : Array (Option Value)} {ocPas kVPas dcPas pmPas cdPas ctPas : Value} {restPas : List Value}
    {tkLet : Tok}
    {tkSgn : Tok}
    {tkMst : Tok}
    {tkMpt : Tok}
    {pRed fRed : Addr} {odRed anRed : Option Addr} {slRed : Array (Option Value)} {ocRed kVRed dcRed pmRed cdRed ctRed : Value} {restRed : List Value} {odE : Option Addr} {nE : Nat} {slE : Array (Option Value)}
    (aSip : PySem.W.nsIn K mainGlobals "_law_sip" = some (some (.ref fSip)))
    (lSip : K.lookup fSip = some ⟨ocSip, odSip, .func (PySem.W.fnOf "_law_sip" "_law_sip" (defArgs sSip) (defBody sSip) (defScope sSip) .none kVSip dcSip pmSip anSip cdSip ctSip), slSip⟩)
    (cSip : PySem.W.codeIn K cdSip "_law_sip" = true)
    (kSip : PySem.W.keepIn K (.ref fSip) = true)
    (aJug : PySem.W.nsIn K mainGlobals "_law_jug" = some (some (.ref fJug)))
    (lJug : K.lookup fJug = some ⟨ocJug, odJug, .func (PySem.W.fnOf "_law_jug" "_law_jug" (defArgs sJug) (defBody sJug) (defScope sJug) .none kVJug dcJug pmJug anJug cdJug ctJug), slJug⟩)
    (cJug : PySem.W.codeIn K cdJug "_law_jug" = true)
    (kJug : PySem.W.keepIn K (.ref fJug) = true)
    (aHds : PySem.W.nsIn K mainGlobals "_law_heads" = some (some (.ref fHds)))
    (lHds : K.lookup fHds = some ⟨ocHds, odHds, .func (PySem.W.fnOf "_law_heads" "_law_heads" (defArgs sHeads) (defBody sHeads) (defScope sHeads) .none kVHds dcHds pmHds anHds cdHds ctHds), slHds⟩)
    (cHds : PySem.W.codeIn K cdHds "_law_heads" = true)
    (kHds : PySem.W.keepIn K (.ref fHds) = true)
    (aRds : PySem.W.nsIn K mainGlobals "_law_roads" = some (some (.ref fRds)))
    (lRds : K.lookup fRds = some ⟨ocRds, odRds, .func (PySem.W.fnOf "_law_roads" "_law_roads" (defArgs sRoads) (defBody sRoads) (defScope sRoads) .none kVRds dcRds pmRds anRds cdRds ctRds), slRds⟩)
    (cRds : PySem.W.codeIn K cdRds "_law_roads" = true)
    (kRds : PySem.W.keepIn K (.ref fRds) = true)
    (aPge : PySem.W.nsIn K mainGlobals "_law_page" = some (some (.ref fPge)))
    (lPge : K.lookup fPge = some ⟨ocPge, odPge, .func (PySem.W.fnOf "_law_page" "_law_page" (defArgs sPage) (defBody sPage) (defScope sPage) .none kVPge dcPge pmPge anPge cdPge ctPge), slPge⟩)
    (cPge : PySem.W.codeIn K cdPge "_law_page" = true)
    (kPge : PySem.W.keepIn K (.ref fPge) = true)
    (aNam : PySem.W.nsIn K mainGlobals "is_name" = some (some (.ref fNam)))
    (lNam : K.lookup fNam = some ⟨ocNam, odNam, .func (PySem.W.fnOf "is_name" "is_name" (defArgs sName) (defBody sName) (defScope sName) .none kVNam dcNam pmNam anNam cdNam ctNam), slNam⟩)
    (cNam : PySem.W.codeIn K cdNam "is_name" = true)
    (kNam : PySem.W.keepIn K (.ref fNam) = true)
    (aAmg : PySem.W.nsIn K mainGlobals "is_among" = some (some (.ref fAmg)))
    (lAmg : K.lookup fAmg = some ⟨ocAmg, odAmg, .func (PySem.W.fnOf "is_among" "is_among" (defArgs sAmong) (defBody sAmong) (defScope sAmong) .none kVAmg dcAmg pmAmg anAmg cdAmg ctAmg), slAmg⟩)
    (cAmg : PySem.W.codeIn K cdAmg "is_among" = true)
    (kAmg : PySem.W.keepIn K (.ref fAmg) = true)
    (aPrt : PySem.W.nsIn K mainGlobals "_check_parts" = some (some (.ref fPrt)))
    (lPrt : K.lookup fPrt = some ⟨ocPrt, odPrt, .func (PySem.W.fnOf "_check_parts" "_check_parts" (defArgs sParts) (defBody sParts) (defScope sParts) .none kVPrt dcPrt pmPrt anPrt cdPrt ctPrt), slPrt⟩)
    (cPrt : PySem.W.codeIn K cdPrt "_check_parts" = true)
    (kPrt : PySem.W.keepIn K (.ref fPrt) = true)
    (aPai : PySem.W.nsIn K mainGlobals "is_pair" = some (some (.ref fPai)))
    (lPai : K.lookup fPai = some ⟨ocPai, odPai, .func (PySem.W.fnOf "is_pair" "is_pair" (defArgs sPair) (defBody sPair) (defScope sPair) .none kVPai dcPai pmPai anPai cdPai ctPai), slPai⟩)
    (cPai : PySem.W.codeIn K cdPai "is_pair" = true)
    (kPai : PySem.W.keepIn K (.ref fPai) = true)
    (aTie : PySem.W.nsIn K mainGlobals "_check_ties" = some (some (.ref fTie)))
    (lTie : K.lookup fTie = some ⟨ocTie, odTie, .func (PySem.W.fnOf "_check_ties" "_check_ties" (defArgs sTies) (defBody sTies) (defScope sTies) .none kVTie dcTie pmTie anTie cdTie ctTie), slTie⟩)
    (cTie : PySem.W.codeIn K cdTie "_check_ties" = true)
    (kTie : PySem.W.keepIn K (.ref fTie) = true)
    (aRgt : PySem.W.nsIn K mainGlobals "_law_right" = some (some (.ref fRgt)))
    (lRgt : K.lookup fRgt = some ⟨ocRgt, odRgt, .func (PySem.W.fnOf "_law_right" "_law_right" (defArgs sRight) (defBody sRight) (defScope sRight) .none kVRgt dcRgt pmRgt anRgt cdRgt ctRgt), slRgt⟩)
    (cRgt : PySem.W.codeIn K cdRgt "_law_right" = true)
    (kRgt : PySem.W.keepIn K (.ref fRgt) = true)
    (aQui : PySem.W.nsIn K mainGlobals "_law_quiet" = some (some (.ref fQui)))
    (lQui : K.lookup fQui = some ⟨ocQui, odQui, .func (PySem.W.fnOf "_law_quiet" "_law_quiet" (defArgs sQuiet) (defBody sQuiet) (defScope sQuiet) .none kVQui dcQui pmQui anQui cdQui ctQui), slQui⟩)
    (cQui : PySem.W.codeIn K cdQui "_law_quiet" = true)
    (kQui : PySem.W.keepIn K (.ref fQui) = true)
    (aLaw : PySem.W.nsIn K mainGlobals "law" = some (some (.ref fLaw)))
    (lLaw : K.lookup fLaw = some ⟨ocLaw, odLaw, .func (PySem.W.fnOf "law" "law" (defArgs sLaw) (defBody sLaw) (defScope sLaw) .none kVLaw dcLaw pmLaw anLaw cdLaw ctLaw), slLaw⟩)
    (cLaw : PySem.W.codeIn K cdLaw "law" = true)
    (kLaw : PySem.W.keepIn K (.ref fLaw) = true)
    (aC : PySem.W.nsIn K mainGlobals "Works" = some (some (.ref C)))
    (aIni : PySem.W.findIn K (.ref C) "__init__" = some (some (.ref fIni)))
    (iIni : PySem.W.isFn K (.ref fIni) = true)
    (lIni : K.lookup fIni = some ⟨ocIni, odIni, .func (PySem.W.fnOf "__init__" "Works.__init__" (defArgs sInit) (defBody sInit) (defScope sInit) (.ref TIni) kVIni dcIni pmIni anIni cdIni ctIni), slIni⟩)
    (tIni : K.lookup TIni = some ⟨ocTIni, odTIni, .seq #[.ref eIni] nTIni, slTIni⟩)
    (cIni : PySem.W.codeIn K cdIni "Works.__init__" = true)
    (kIni : PySem.W.keepIn K (.ref fIni) = true)
    (aEqs : PySem.W.findIn K (.ref C) "__eq__" = some (some (.ref fEqs)))
    (iEqs : PySem.W.isFn K (.ref fEqs) = true)
    (lEqs : K.lookup fEqs = some ⟨ocEqs, odEqs, .func (PySem.W.fnOf "__eq__" "Works.__eq__" (defArgs sEq) (defBody sEq) (defScope sEq) .none kVEqs dcEqs pmEqs anEqs cdEqs ctEqs), slEqs⟩)
    (cEqs : PySem.W.codeIn K cdEqs "Works.__eq__" = true)
    (kEqs : PySem.W.keepIn K (.ref fEqs) = true)
    (aStr : PySem.W.findIn K (.ref C) "__str__" = some (some (.ref fStr)))
    (iStr : PySem.W.isFn K (.ref fStr) = true)
    (lStr : K.lookup fStr = some ⟨ocStr, odStr, .func (PySem.W.fnOf "__str__" "Works.__str__" (defArgs sStr) (defBody sStr) (defScope sStr) .none kVStr dcStr pmStr anStr cdStr ctStr), slStr⟩)
    (cStr : PySem.W.codeIn K cdStr "Works.__str__" = true)
    (kStr : PySem.W.keepIn K (.ref fStr) = true)
    (aLns : PySem.W.findIn K (.ref C) "__len__" = some (some (.ref fLns)))
    (iLns : PySem.W.isFn K (.ref fLns) = true)
    (lLns : K.lookup fLns = some ⟨ocLns, odLns, .func (PySem.W.fnOf "__len__" "Works.__len__" (defArgs sLen) (defBody sLen) (defScope sLen) .none kVLns dcLns pmLns anLns cdLns ctLns), slLns⟩)
    (cLns : PySem.W.codeIn K cdLns "Works.__len__" = true)
    (kLns : PySem.W.keepIn K (.ref fLns) = true)
    (aTis : PySem.W.findIn K (.ref C) "ties" = some (some (.ref pTis)))
    (gTis : PySem.W.specialIn K (.ref pTis) "__get__" = some (some (.builtin "property.__get__")))
    (tTis : PySem.W.takesIn K (.ref pTis) = some true)
    (rTis : PySem.W.recIn K pTis "property" = some (.ref fTis :: restTis))
    (lTis : K.lookup fTis = some ⟨ocTis, odTis, .func (PySem.W.fnOf "ties" "Works.ties" (defArgs sGetT) (defBody sGetT) (defScope sGetT) .none kVTis dcTis pmTis anTis cdTis ctTis), slTis⟩)
    (cTis : PySem.W.codeIn K cdTis "Works.ties" = true)
    (kTis : PySem.W.keepIn K (.ref fTis) = true)
    (aPas : PySem.W.findIn K (.ref C) "parts" = some (some (.ref pPas)))
    (gPas : PySem.W.specialIn K (.ref pPas) "__get__" = some (some (.builtin "property.__get__")))
    (tPas : PySem.W.takesIn K (.ref pPas) = some true)
    (rPas : PySem.W.recIn K pPas "property" = some (.ref fPas :: restPas))
    (lPas : K.lookup fPas = some ⟨ocPas, odPas, .func (PySem.W.fnOf "parts" "Works.parts" (defArgs sGetP) (defBody sGetP) (defScope sGetP) .none kVPas dcPas pmPas anPas cdPas ctPas), slPas⟩)
    (cPas : PySem.W.codeIn K cdPas "Works.parts" = true)
    (kPas : PySem.W.keepIn K (.ref fPas) = true)
    (pg : PySem.W.plainGet K C Str.empty = true)
    (hd : PySem.W.hasDictIn K C = true)
    (po : PySem.W.plainOver K C = true)
    (sa : PySem.W.findIn K (.ref C) "__setattr__" = some (some (.builtin "object.__setattr__")))
    (mk : PySem.W.makesIn K C = true)
    (kc : PySem.W.keepIn K (.ref C) = true)
    (n_parts : PySem.W.findIn K (.ref C) "_parts" = some none)
    (n_ties : PySem.W.findIn K (.ref C) "_ties" = some none)
    (zlen : PySem.W.nsIn K mainGlobals "len" = some none)
    (zint : PySem.W.nsIn K mainGlobals "int" = some none)
    (zabs : PySem.W.nsIn K mainGlobals "abs" = some none)
    (zdivmod : PySem.W.nsIn K mainGlobals "divmod" = some none)
    (zrange : PySem.W.nsIn K mainGlobals "range" = some none)
    (ztuple : PySem.W.nsIn K mainGlobals "tuple" = some none)
    (zrepr : PySem.W.nsIn K mainGlobals "repr" = some none)
    (zall : PySem.W.nsIn K mainGlobals "all" = some none)
    (zmax : PySem.W.nsIn K mainGlobals "max" = some none)
    (zmin : PySem.W.nsIn K mainGlobals "min" = some none)
    (zisinstance : PySem.W.nsIn K mainGlobals "isinstance" = some none)
    (zstr : PySem.W.nsIn K mainGlobals "str" = some none)
    (zenumerate : PySem.W.nsIn K mainGlobals "enumerate" = some none)
    (zbool : PySem.W.nsIn K mainGlobals "bool" = some none)
    (vLet : PySem.W.nsIn K mainGlobals "_LETTERS" = some (some (.str letterS tkLet)))
    (vSgn : PySem.W.nsIn K mainGlobals "_SIGNS" = some (some (.str signS tkSgn)))
    (vMst : PySem.W.nsIn K mainGlobals "_MOST_SIGNS" = some (some (.int 8 tkMst)))
    (vMpt : PySem.W.nsIn K mainGlobals "MOST_PARTS" = some (some (.int 8 tkMpt)))
    (rm1 : PySem.W.findCls K (.ref C) (.type "type") "read" = some (.get (.builtin "classmethod.__get__") (.ref pRed) .none (.ref C)))
    (rm2 : PySem.W.recIn K pRed "classmethod" = some (.ref fRed :: restRed))
    (rm3 : PySem.W.fnIn K fRed = true)
    (lRed : K.lookup fRed = some ⟨ocRed, odRed, .func (PySem.W.fnOf "read" "Works.read" (defArgs sRead) (defBody sRead) (defScope sRead) .none kVRed dcRed pmRed anRed cdRed ctRed), slRed⟩)
    (cRed : PySem.W.codeIn K cdRed "Works.read" = true)
    (kRed : PySem.W.keepIn K (.ref fRed) = true)
    (rd1 : PySem.W.readsIn K C (.type "type") = true)
    (rd2 : PySem.W.specialIn K (.ref C) "__getattribute__" = some (some (.builtin "type.__getattribute__")))
    (i1 : PySem.W.findIn K (.ref C) "__class__" = some (some (.builtin "object.__class__")))
    (i2 : PySem.W.specialIn K (.builtin "object.__class__") "__get__" = some (some (.builtin "getset_descriptor.__get__")))
    (i3 : PySem.W.takesIn K (.builtin "object.__class__") = some true)
    (i4 : PySem.W.mroIn K C (.type "object") = some true)
    (i5 : PySem.W.kitOne K (.ref C) (.ref C) = some true)
    (nfC : PySem.W.notFirst K C (.ref C) = true)
    (lbC : PySem.W.findIn K (.ref C) "__bool__" = some none)
    (eE : K.lookup eIni = some ⟨.type "tuple", odE, .seq #[] nE, slE⟩)
    (neC : PySem.W.findIn K (.ref C) "__ne__" = some (some (.builtin "object.__ne__"))) :
    ∃ fd : FuncData, (∀ (s : Shared) (v : Value), BindsTo s fd ⟨[v], []⟩ [("_law_script", v)]) ∧ ∀ base : Heap, K.In base → base.Ns mainGlobals mg → FnG l.prog w K mg base CX0 NLAW fa fd ["_law_script"] (spLaw K) := by
  have e := hfa.symm.trans (PySem.W.mg_of X G aLaw)
  cases e
  have no : ∀ {x : Str}, PySem.W.nsIn K mainGlobals x = some none → mg x = none := fun z => PySem.W.mg_none_of X G z
  have B : TB mg := ⟨no zlen, no zint, no zabs, no zdivmod, no zrange, no ztuple⟩
  have N : TN mg := ⟨no zisinstance, no zstr, no zlen, no zall, ⟨_, PySem.W.mg_of X G vLet⟩, ⟨_, PySem.W.mg_of X G vSgn⟩, ⟨_, PySem.W.mg_of X G vMst⟩⟩
  have TCv : TC mg := ⟨N, no ztuple, no zenumerate, ⟨_, PySem.W.mg_of X G vMpt⟩⟩
  have W : TW K mg C := ⟨TCv, ⟨pg, hd, po, sa⟩, n_parts, n_ties, PySem.W.mg_of X G aC⟩
  have L : TL mg := ⟨B, no zrepr, no zall, no zmax, no zmin⟩
  have FSip := fun_mk (st := sSip) lSip cSip kSip
  have DSip : DefAt K mg "_law_sip" ["_law_jug_here", "_law_most"] sSip _ _ := ⟨FSip, PySem.W.mg_of X G aSip, kSip, FSip.binds (ps := ["_law_jug_here", "_law_most"]) fun _ _ _ _ _ _ us hl => match us, hl with | [_, _], _ => rfl⟩
  have FJug := fun_mk (st := sJug) lJug cJug kJug
  have DJug : DefAt K mg "_law_jug" ["_law_script", "_law_at"] sJug _ _ := ⟨FJug, PySem.W.mg_of X G aJug, kJug, FJug.binds (ps := ["_law_script", "_law_at"]) fun _ _ _ _ _ _ us hl => match us, hl with | [_, _], _ => rfl⟩
  have FHds := fun_mk (st := sHeads) lHds cHds kHds
  have DHds : DefAt K mg "_law_heads" ["_law_jug_here", "_law_most_here"] sHeads _ _ := ⟨FHds, PySem.W.mg_of X G aHds, kHds, FHds.binds (ps := ["_law_jug_here", "_law_most_here"]) fun _ _ _ _ _ _ us hl => match us, hl with | [_, _], _ => rfl⟩
  have FRds := fun_mk (st := sRoads) lRds cRds kRds
  have DRds : DefAt K mg "_law_roads" ["_law_jug_here", "_law_heads_here"] sRoads _ _ := ⟨FRds, PySem.W.mg_of X G aRds, kRds, FRds.binds (ps := ["_law_jug_here", "_law_heads_here"]) fun _ _ _ _ _ _ us hl => match us, hl with | [_, _], _ => rfl⟩
  have FPge := fun_mk (st := sPage) lPge cPge kPge
  have DPge : DefAt K mg "_law_page" ["_law_heads_here", "_law_roads_here"] sPage _ _ := ⟨FPge, PySem.W.mg_of X G aPge, kPge, FPge.binds (ps := ["_law_heads_here", "_law_roads_here"]) fun _ _ _ _ _ _ us hl => match us, hl with | [_, _], _ => rfl⟩
  have FNam := fun_mk (st := sName) lNam cNam kNam
  have DNam : DefAt K mg "is_name" ["value"] sName _ _ := ⟨FNam, PySem.W.mg_of X G aNam, kNam, FNam.binds (ps := ["value"]) fun _ _ _ _ _ _ us hl => match us, hl with | [_], _ => rfl⟩
  have FAmg := fun_mk (st := sAmong) lAmg cAmg kAmg
  have DAmg : DefAt K mg "is_among" ["value", "names"] sAmong _ _ := ⟨FAmg, PySem.W.mg_of X G aAmg, kAmg, FAmg.binds (ps := ["value", "names"]) fun _ _ _ _ _ _ us hl => match us, hl with | [_, _], _ => rfl⟩
  have FPrt := fun_mk (st := sParts) lPrt cPrt kPrt
  have DPrt : DefAt K mg "_check_parts" ["parts"] sParts _ _ := ⟨FPrt, PySem.W.mg_of X G aPrt, kPrt, FPrt.binds (ps := ["parts"]) fun _ _ _ _ _ _ us hl => match us, hl with | [_], _ => rfl⟩
  have FPai := fun_mk (st := sPair) lPai cPai kPai
  have DPai : DefAt K mg "is_pair" ["value", "names"] sPair _ _ := ⟨FPai, PySem.W.mg_of X G aPai, kPai, FPai.binds (ps := ["value", "names"]) fun _ _ _ _ _ _ us hl => match us, hl with | [_, _], _ => rfl⟩
  have FTie := fun_mk (st := sTies) lTie cTie kTie
  have DTie : DefAt K mg "_check_ties" ["ties", "parts"] sTies _ _ := ⟨FTie, PySem.W.mg_of X G aTie, kTie, FTie.binds (ps := ["ties", "parts"]) fun _ _ _ _ _ _ us hl => match us, hl with | [_, _], _ => rfl⟩
  have FRgt := fun_mk (st := sRight) lRgt cRgt kRgt
  have DRgt : DefAt K mg "_law_right" ["_law_jug_here"] sRight _ _ := ⟨FRgt, PySem.W.mg_of X G aRgt, kRgt, FRgt.binds (ps := ["_law_jug_here"]) fun _ _ _ _ _ _ us hl => match us, hl with | [_], _ => rfl⟩
  have FQui := fun_mk (st := sQuiet) lQui cQui kQui
  have DQui : DefAt K mg "_law_quiet" ["_law_jug_here"] sQuiet _ _ := ⟨FQui, PySem.W.mg_of X G aQui, kQui, FQui.binds (ps := ["_law_jug_here"]) fun _ _ _ _ _ _ us hl => match us, hl with | [_], _ => rfl⟩
  have FIni : FunD K "__init__" "Works.__init__" (defArgs sInit) (defBody sInit) (defScope sInit) [.ref eIni] [] fIni _ :=
    ⟨⟨_, _, _, _, _, _, _, _, _, _, rfl, lIni, cIni, .inr ⟨nofun, TIni, _, [.ref eIni], _, rfl, tIni, rfl, .cons rfl .nil⟩, .inl rfl⟩, kIni⟩
  obtain ⟨ds, vds, bIni⟩ := FIni.binds1 (ps := ["self", "parts", "ties"]) 3 1 nofun rfl fun T kV doc pm an cdv ct us its h1 h2 => match us, its, h1, h2 with | [_, _, _], [_], _, _ => ⟨_, rfl, rfl⟩
  cases vds
  obtain ⟨ds1, vds1, bIni1⟩ := FIni.binds1 (ps := ["self", "parts", "ties"]) 2 0 nofun rfl fun T kV doc pm an cdv ct us its h1 h2 => match us, its, h1, h2 with | [_, _], [_], _, _ => ⟨_, rfl, rfl⟩
  have kIni := kb_all (ps := ["self", "parts", "ties"]) FIni 1 ["ties", "parts"] (fun us ws => us ++ ws.reverse) nofun vals_swap fun T kV doc pm an cdv ct us its ws h1 h2 h3 => match us, its, ws, h1, h2, h3 with | [_], [_], [_, _], _, _, _ => ⟨_, rfl, rfl⟩
  have kIni2 := kb_all (ps := ["self", "parts", "ties"]) FIni 1 ["parts", "ties"] (fun us ws => us ++ ws) nofun (fun r1 r2 => r1.append r2) fun T kV doc pm an cdv ct us its ws h1 h2 h3 => match us, its, ws, h1, h2, h3 with | [_], [_], [_, _], _, _, _ => ⟨_, rfl, rfl⟩
  have FLns := fun_mk (st := sLen) (x := "__len__") (qual := "Works.__len__") lLns cLns kLns
  have bLns := FLns.binds (ps := ["self"]) fun _ _ _ _ _ _ us hl => match us, hl with | [_], _ => rfl
  have FPas := fun_mk (st := sGetP) (x := "parts") (qual := "Works.parts") lPas cPas kPas
  have bPas := FPas.binds (ps := ["self"]) fun _ _ _ _ _ _ us hl => match us, hl with | [_], _ => rfl
  have FEqs := fun_mk (st := sEq) (x := "__eq__") (qual := "Works.__eq__") lEqs cEqs kEqs
  have bEqs := FEqs.binds (ps := ["self", "other"]) fun _ _ _ _ _ _ us hl => match us, hl with | [_, _], _ => rfl
  have FStr := fun_mk (st := sStr) (x := "__str__") (qual := "Works.__str__") lStr cStr kStr
  have bStr := FStr.binds (ps := ["self"]) fun _ _ _ _ _ _ us hl => match us, hl with | [_], _ => rfl
  have FRed := fun_mk (st := sRead) (x := "read") (qual := "Works.read") lRed cRed kRed
  have bRed := FRed.binds (ps := ["cls", "text"]) fun _ _ _ _ _ _ us hl => match us, hl with | [_, _], _ => rfl
  have FTis := fun_mk (st := sGetT) (x := "ties") (qual := "Works.ties") lTis cTis kTis
  have bTis := FTis.binds (ps := ["self"]) fun _ _ _ _ _ _ us hl => match us, hl with | [_], _ => rfl
  have I : TI K C := ⟨i1, i2, i3, i4, i5⟩
  have Y : TM K C fEqs fStr fRed pRed pTis fTis (.type "type") := ⟨I, mk, nfC, aEqs, iEqs, neC, aStr, iStr, ⟨rd1, rd2⟩, ⟨rm1, ⟨_, rm2⟩, rm3⟩, ⟨aTis, gTis, tTis, ⟨_, rTis⟩⟩⟩
  refine ⟨PySem.W.fnOf "law" "law" (defArgs sLaw) (defBody sLaw) (defScope sLaw) .none kVLaw dcLaw pmLaw anLaw cdLaw ctLaw, fun s v => .of_eq rfl, fun base _ _ => ?_⟩
  have GPai := ok_pair (P := l.prog) (w := w) (base := base) FPai TCv DAmg
  have GPrt := ok_parts (P := l.prog) (w := w) (base := base) FPrt TCv DNam
  have GTie := ok_ties FTie TCv DPai GPai
  have GIni := ok_init FIni W DPrt GPrt DTie GTie
  have GHds := ok_heads (P := l.prog) (w := w) (base := base) FHds B DSip
  have GRds := ok_roads (P := l.prog) (w := w) (base := base) FRds B DSip
  have GPge := ok_page (P := l.prog) (w := w) (K := K) (mg := mg) (base := base) FPge
  have GEqs := ok_eq (P := l.prog) (w := w) (base := base) FEqs W I
  have GStr := ok_str (P := l.prog) (w := w) (base := base) FStr W
  have GRed := ok_read FRed W ⟨mk, aIni, iIni, kc⟩ GIni bIni
  have GTis := ok_getT (P := l.prog) (w := w) (base := base) FTis W
  have GLns := ok_len (P := l.prog) (w := w) (base := base) FLns W
  have GPas := ok_getP (P := l.prog) (w := w) (base := base) FPas W
  have GRgt := ok_right FRgt L W Y (no zbool) DHds GHds DRds GRds DPge GPge ⟨mk, aIni, iIni, kc⟩ GIni bIni bIni1 vds1 eE kIni kIni2 GEqs bEqs GStr bStr GRed bRed (kb_read FRed) GTis bTis ⟨aPas, gPas, tPas, ⟨_, rPas⟩⟩ GPas bPas GLns bLns aLns iLns lbC
  exact ok_law (fun_mk (st := sLaw) lLaw cLaw kLaw) L DQui (ok_quiet FQui DRgt GRgt) DJug
end Fs
open PySem PySem.W PyProof.Rows in
set_option maxRecDepth 100000 in
set_option maxHeartbeats 0 in
theorem PySem.Challenge.cw_forcedsteer_k02_works_made_holds : PySem.Challenge.rw_forcedsteer_k02_works_made.Holds := by
  w_on; o_law; k_head; (case hw => w_witness2)
  k_fill
  refine Fs.walk_end (l := PySem.Challenge.rw_forcedsteer_k02_works_made) (n := Fs.NLAW) (m := 63) (sp := Fs.spLaw) (x := "_law_script") rfl (by decide) rfl ⟨rfl, by decide, by decide⟩ (fun w h Y => PySem.W.kIn_of Y) ?F (fun K G a is few h => ⟨a, is, rfl, few, h, fun _ => rfl⟩)
  case F =>
    intro w mg fa h KX G hmg
    refine' Fs.all_mk KX G hmg ?aSip ?lSip ?cSip ?kSip ?aJug ?lJug ?cJug ?kJug ?aHds ?lHds ?cHds ?kHds ?aRds ?lRds ?cRds ?kRds ?aPge ?lPge ?cPge ?kPge ?aNam ?lNam ?cNam ?kNam ?aAmg ?lAmg ?cAmg ?kAmg ?aPrt ?lPrt ?cPrt ?kPrt ?aPai ?lPai ?cPai ?kPai ?aTie ?lTie ?cTie ?kTie ?aRgt ?lRgt ?cRgt ?kRgt ?aQui ?lQui ?cQui ?kQui ?aLaw ?lLaw ?cLaw ?kLaw ?aC ?aIni ?iIni ?lIni ?tIni ?cIni ?kIni ?aEqs ?iEqs ?lEqs ?cEqs ?kEqs ?aStr ?iStr ?lStr ?cStr ?kStr ?aLns ?iLns ?lLns ?cLns ?kLns ?aTis ?gTis ?tTis ?rTis ?lTis ?cTis ?kTis ?aPas ?gPas ?tPas ?rPas ?lPas ?cPas ?kPas ?pg ?hd ?po ?sa ?mk ?kc ?n_parts ?n_ties ?zlen ?zint ?zabs ?zdivmod ?zrange ?ztuple ?zrepr ?zall ?zmax ?zmin ?zisinstance ?zstr ?zenumerate ?zbool ?vLet ?vSgn ?vMst ?vMpt ?rm1 ?rm2 ?rm3 ?lRed ?cRed ?kRed ?rd1 ?rd2 ?i1 ?i2 ?i3 ?i4 ?i5 ?nfC ?lbC ?eE ?neC
    (case aSip => first | k_is | kit_is)
    (case lSip => first | k_is | kit_is)
    (case cSip => first | k_is | kit_is)
    (case kSip => first | k_is | kit_is)
    (case aJug => first | k_is | kit_is)
    (case lJug => first | k_is | kit_is)
    (case cJug => first | k_is | kit_is)
    (case kJug => first | k_is | kit_is)
    (case aHds => first | k_is | kit_is)
    (case lHds => first | k_is | kit_is)
    (case cHds => first | k_is | kit_is)
    (case kHds => first | k_is | kit_is)
    (case aRds => first | k_is | kit_is)
    (case lRds => first | k_is | kit_is)
    (case cRds => first | k_is | kit_is)
    (case kRds => first | k_is | kit_is)
    (case aPge => first | k_is | kit_is)
    (case lPge => first | k_is | kit_is)
    (case cPge => first | k_is | kit_is)
    (case kPge => first | k_is | kit_is)
    (case aNam => first | k_is | kit_is)
    (case lNam => first | k_is | kit_is)
    (case cNam => first | k_is | kit_is)
    (case kNam => first | k_is | kit_is)
    (case aAmg => first | k_is | kit_is)
    (case lAmg => first | k_is | kit_is)
    (case cAmg => first | k_is | kit_is)
    (case kAmg => first | k_is | kit_is)
    (case aPrt => first | k_is | kit_is)
    (case lPrt => first | k_is | kit_is)
    (case cPrt => first | k_is | kit_is)
    (case kPrt => first | k_is | kit_is)
    (case aPai => first | k_is | kit_is)
    (case lPai => first | k_is | kit_is)
    (case cPai => first | k_is | kit_is)
    (case kPai => first | k_is | kit_is)
    (case aTie => first | k_is | kit_is)
    (case lTie => first | k_is | kit_is)
    (case cTie => first | k_is | kit_is)
    (case kTie => first | k_is | kit_is)
    (case aRgt => first | k_is | kit_is)
    (case lRgt => first | k_is | kit_is)
    (case cRgt => first | k_is | kit_is)
    (case kRgt => first | k_is | kit_is)
    (case aQui => first | k_is | kit_is)
    (case lQui => first | k_is | kit_is)
    (case cQui => first | k_is | kit_is)
    (case kQui => first | k_is | kit_is)
    (case aLaw => first | k_is | kit_is)
    (case lLaw => first | k_is | kit_is)
    (case cLaw => first | k_is | kit_is)
    (case kLaw => first | k_is | kit_is)
    (case aC => first | k_is | kit_is)
    (case aIni => first | k_is | kit_is)
    (case iIni => first | k_is | kit_is)
    (case lIni => first | k_is | kit_is)
    (case tIni => first | k_is | kit_is)
    (case cIni => first | k_is | kit_is)
    (case kIni => first | k_is | kit_is)
    (case aEqs => first | k_is | kit_is)
    (case iEqs => first | k_is | kit_is)
    (case lEqs => first | k_is | kit_is)
    (case cEqs => first | k_is | kit_is)
    (case kEqs => first | k_is | kit_is)
    (case aStr => first | k_is | kit_is)
    (case iStr => first | k_is | kit_is)
    (case lStr => first | k_is | kit_is)
    (case cStr => first | k_is | kit_is)
    (case kStr => first | k_is | kit_is)
    (case aLns => first | k_is | kit_is)
    (case iLns => first | k_is | kit_is)
    (case lLns => first | k_is | kit_is)
    (case cLns => first | k_is | kit_is)
    (case kLns => first | k_is | kit_is)
    (case aTis => first | k_is | kit_is)
    (case gTis => first | k_is | kit_is)
    (case tTis => first | k_is | kit_is)
    (case rTis => first | k_is | kit_is)
    (case lTis => first | k_is | kit_is)
    (case cTis => first | k_is | kit_is)
    (case kTis => first | k_is | kit_is)
    (case aPas => first | k_is | kit_is)
    (case gPas => first | k_is | kit_is)
    (case tPas => first | k_is | kit_is)
    (case rPas => first | k_is | kit_is)
    (case lPas => first | k_is | kit_is)
    (case cPas => first | k_is | kit_is)
    (case kPas => first | k_is | kit_is)
    (case pg => first | k_is | kit_is)
    (case hd => first | k_is | kit_is)
    (case po => first | k_is | kit_is)
    (case sa => first | k_is | kit_is)
    (case mk => first | k_is | kit_is)
    (case kc => first | k_is | kit_is)
    (case n_parts => first | k_is | kit_is)
    (case n_ties => first | k_is | kit_is)
    (case zlen => first | k_is | kit_is)
    (case zint => first | k_is | kit_is)
    (case zabs => first | k_is | kit_is)
    (case zdivmod => first | k_is | kit_is)
    (case zrange => first | k_is | kit_is)
    (case ztuple => first | k_is | kit_is)
    (case zrepr => first | k_is | kit_is)
    (case zall => first | k_is | kit_is)
    (case zmax => first | k_is | kit_is)
    (case zmin => first | k_is | kit_is)
    (case zisinstance => first | k_is | kit_is)
    (case zstr => first | k_is | kit_is)
    (case zenumerate => first | k_is | kit_is)
    (case zbool => first | k_is | kit_is)
    (case vLet => first | k_is | kit_is)
    (case vSgn => first | k_is | kit_is)
    (case vMst => first | k_is | kit_is)
    (case vMpt => first | k_is | kit_is)
    (case rm1 => first | k_is | kit_is)
    (case rm2 => first | k_is | kit_is)
    (case rm3 => first | k_is | kit_is)
    (case lRed => first | k_is | kit_is)
    (case cRed => first | k_is | kit_is)
    (case kRed => first | k_is | kit_is)
    (case rd1 => first | k_is | kit_is)
    (case rd2 => first | k_is | kit_is)
    (case i1 => first | k_is | kit_is)
    (case i2 => first | k_is | kit_is)
    (case i3 => first | k_is | kit_is)
    (case i4 => first | k_is | kit_is)
    (case i5 => first | k_is | kit_is)
    (case nfC => first | k_is | kit_is)
    (case lbC => first | k_is | kit_is)
    (case eE => first | k_is | kit_is)
    (case neC => first | k_is | kit_is)
