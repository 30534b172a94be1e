import PyProof.Rows.All
import Wide.All
import OpenK.AllK
import Wide.FinOn
import HandS.ForMost
import HandS.ForExc
import HandS.IsInst
import HandS.MakeKwOnly
import HandS.ClsMeth
import HandS.Conv
import HandS.Codes
import HandS.Walk
import HandS.Style
import HandS.Flow
import HandS.Wide
import HandS.OwnEq
import HandS.OwnIter
import HandS.IterVal
import KE.KOwnIter
import PyProof.FactsAll.tuple_iterator_1
import HandS.Deep
import HandS.SortRule
import KE.GoesMore
import KE.GoesEnum
import KE.KLam
import KE.DataMinKey
import HandS.Base
import HandS.Call
import HandS.List
import HandS.Comp
import HandS.Lambda
import HandS.Nested
import HandS.Keys
import HandS.SortInts
import PyProof.NeKinds
import HandS.SetFor
import HandS.Strs
import HandS.TupSets
import KE.SortData
import HandS.Gcd
import KE.KMathGC
import HandS.Sort
import PyProof.AutoSeq1
import KE.KTurns
import HandS.TupLe
import HandS.Zip
import HandS.TryOnly
import HandS.TupAny
import KE.KNestM
import HandS.EndTab
import HandS.Rev
import PySem.Challenge.RW_heaprows_k20_whole_built_codes
set_option Elab.async false
set_option maxRecDepth 100000
set_option Elab.async false
set_option linter.all false
set_option maxRecDepth 100000
set_option maxHeartbeats 2000000
namespace Tw
open PySem PySem.Spec PyProof.Rows L2

/-! own rules: an instance with dunder methods -/
/-- a dunder method of the class at C, its def at f -/
structure Dn (K : PySem.W.Frag) (C : Addr) (m : Str) (f : Addr) : Prop where
  at_ : PySem.W.findIn K (.ref C) m = some (some (.ref f))
  fn : PySem.W.isFn K (.ref f) = true
  fi : PySem.W.fnIn K f = true


section
variable {X : Cx} {CX : CXT} {k n : Nat} {f C : Addr} {fd : FuncData} {ps : List Str} {sp : Sp} {E : XK} {o e : Expr} {pos : Pos} {ta tb : TE} {A1 : Around}
  {pins : List (Addr × Obj)} {σ : L2.St} {H : Hp} {s : Shared} {Q : VK}
theorem Sub.env0 (sb : Sub X n A1) (I : Inv X pins σ H s) : Env0 X.prog X.w X.K X.mg X.base A1 X.stack s H := by
  have q := I.env0
  exact ⟨by rw [sb.fr]; exact q.frames, q.mod, q.bs, q.bsz, q.funs, q.frf, q.hok, q.bare⟩
theorem run_sub {us : List Value} {vs : List V} (F : FnOk X.prog X.w X.K X.mg X.base CX k f fd ps sp) (sb : Sub X k A1) (hb : Binds X.K fd ps []) (hx : Passes CX X E) (I : Inv X pins σ H s) (r : Vals vs us) (h : sp vs H Q E) :
    wpAny (model X.prog X.w) A1 (call (.ref f) us) (EP X pins σ Q) X.xe s := by
  have hl : us.length = ps.length := by rw [← r.length]; exact F.len _ _ _ _ h
  have hb1 : BindsTo s fd ⟨us, []⟩ (ps.zip us) := by
    have z := hb s us I.kIn (by rw [List.append_nil]; exact hl)
    rw [List.append_nil] at z
    exact z
  refine wpAny_call (codeAny_mono (F.run A1 X.stack s H ⟨us, []⟩ us vs Q E sb.room (Sub.env0 sb I) hb1 r h) fun z s' hq => ?_)
  match z, hq with
  | .error e, hq => exact hx pins σ H s e s' I hq
  | .ok (.ret u), hq => exact I.after hq
  | .ok .next, hq => exact False.elim hq
  | .ok .brk, hq => exact False.elim hq
  | .ok .cont, hq => exact False.elim hq
theorem relR (a : Addr) : RelV (V.ref a) (Value.ref a) := rfl
theorem relB (b : Bool) : RelV (V.bl b) (Value.bool b) := rfl
theorem relI (i : Int) (t : Tok) : RelV (V.int i) (Value.int i t) := ⟨t, rfl⟩
/-- o[e] by the class's own def -/
def tGi (C : Addr) (sp : Sp) (E : XK) (ta tb : TE) : TE := fun σ H Q => ta σ H fun x H1 => tb σ H1 fun y H2 =>
  ∃ a dx fs, x = .ref a ∧ H2 a = some (.ins C dx fs) ∧ sp [.ref a, y] H2 Q E
theorem pe_gi (hd : Dn X.K C "__getitem__" f) (F : FnOk X.prog X.w X.K X.mg X.base CX k f fd ps sp) (hr : Room (k + 1) X.A) (hb : Binds X.K fd ps []) (hx : Passes CX X E) (ho : PE X o ta) (he : PE X e tb)
    (hs : ∀ v u, subscripted e true v u = runValue (.builtin "lifetime.subscript" ⟨[v, u], []⟩) := by intro _ _; with_unfolding_all rfl) :
    PE X (.Subscript o e pos) (tGi C sp E ta tb) := by
  refine ⟨fun pins s σ H Q I h => ?_⟩
  refine Subscript_ (binT ho he (R := fun x y H2 => ∃ a dx fs, x = .ref a ∧ H2 a = some (.ins C dx fs) ∧ sp [.ref a, y] H2 Q E) I h fun v u s2 x y H2 I2 rx ry ⟨a, dx, fs, ex, ha, q⟩ => ?_)
  subst ex
  obtain rfl : v = Value.ref a := rx
  obtain ⟨mA, O, rr, _, _, _⟩ := ins_get I2.hok ha
  obtain ⟨od, J, hl⟩ := O.look
  obtain ⟨m0, hF⟩ := I2.fr
  exact PySem.W.sub_K hF I2.ok.mod.kin J hd.at_ hd.fi hd.fn (run_sub F (Sub.in1 ⟨hr, rfl⟩) hb hx I2 (.cons (relR a) (.cons ry .nil)) q) (hs _ _)
/-- e in o, by the class's own def -/
def rIn (C : Addr) (sp : Sp) (E : XK) (neg : Bool) : R2 := fun x y H Q =>
  ∃ a dx fs, y = .ref a ∧ H a = some (.ins C dx fs) ∧ sp [.ref a, x] H (fun v H' => ∃ b, v = .bl b ∧ Q (.bl (if neg then !b else b)) H') E
theorem op_in_own (hd : Dn X.K C "__contains__" f) (F : FnOk X.prog X.w X.K X.mg X.base CX k f fd ps sp) (hr : Room k X.A) (hb : Binds X.K fd ps []) (hx : Passes CX X E) : OpR X (compareOp .In) (rIn C sp E false) := by
  intro pins s σ H x y v u Q I rx ry ⟨a, dx, fs, ey, ha, q⟩
  subst ey
  obtain rfl : u = Value.ref a := ry
  obtain ⟨mA, O, rr, _, _, _⟩ := ins_get I.hok ha
  obtain ⟨od, J, hl⟩ := O.look
  obtain ⟨m0, hF⟩ := I.fr
  refine PySem.W.in_K hF I.ok.mod.kin J hd.at_ hd.fn (thn (run_sub F ⟨hr, rfl⟩ hb hx I (.cons (relR a) (.cons rx .nil)) q) fun r s' ⟨z, H', I', rz, b, ez, q'⟩ => ?_)
  subst ez
  obtain rfl : r = Value.bool b := rz
  exact wpAny_truthy_bool ⟨_, _, I', relB b, q'⟩
/-- len(o) by the class's own def -/
def rLenO (C : Addr) (sp : Sp) (E : XK) : List V → Hp → VK → Prop := fun xs H Q =>
  ∃ a dx fs, xs = [.ref a] ∧ H a = some (.ins C dx fs) ∧ sp [.ref a] H (fun v H' => ∃ n : Nat, v = .int n ∧ n < 1000 ∧ Q (.int n) H') E
theorem call_len_own (hd : Dn X.K C "__len__" f) (F : FnOk X.prog X.w X.K X.mg X.base CX k f fd ps sp) (hr : Room (k + 1) X.A) (hb : Binds X.K fd ps []) (hx : Passes CX X E) : CallR X (.builtin "len") (rLenO C sp E) := by
  intro pins s σ H xs us Q I rv ⟨a, dx, fs, ex, ha, q⟩
  subst ex
  obtain ⟨u, rfl, ru⟩ := rv.one
  obtain rfl : u = Value.ref a := ru
  obtain ⟨mA, O, rr, _, _, _⟩ := ins_get I.hok ha
  obtain ⟨od, J, hl⟩ := O.look
  obtain ⟨m0, hF⟩ := I.fr
  refine PySem.W.len_K hF I.ok.mod.kin J hd.at_ hd.fn (thn (run_sub F (Sub.in1 ⟨hr, rfl⟩) hb hx I (.cons (relR a) .nil) q) fun r s' ⟨z, H', I', rz, n, ez, hn, q'⟩ => ?_)
  subst ez
  obtain ⟨t, rfl⟩ := rz
  exact ⟨⟨by omega, by omega⟩, _, _, I'.tok _, relI _ _, q'⟩
end

/-! for x in o, o an instance whose __iter__ says: return iter(self.F), F a tuple -/
def itTup (t : Addr) (i : Nat) : Obj := { cls := .type "tuple_iterator", data := .fields #[.ref t, .int (i : Nat) 0] }
def ItT (t it : Addr) (i : Nat) : HO := .ext fun h => h.get? it = some (itTup t i)
def rIterT (K : PySem.W.Frag) (n : Nat) : List V → Hp → VK → Prop := fun xs H Q => ∃ (t : Addr) (zs : List V), xs = [.ref t] ∧ SqT K H t zs ∧ ∀ it, H it = Option.none → n ≤ it → Q (.ref it) (upd H it (ItT t it 0))
section
variable {X : Cx}
theorem call_iterT : CallR X (.builtin "iter") (rIterT X.K X.s_0.heap.objs.size) := by
  intro pins s σ H xs us Q I r ⟨t, zs, e, hq, q⟩
  subst e
  obtain ⟨u, rfl, ru⟩ := r.one
  obtain rfl : u = Value.ref t := ru
  obtain ⟨its, rv, pl, hz⟩ := I.tuple hq
  refine Calls.call_function_entry (by decide +kernel) (by decide +kernel) PySem.W.kdk_entry_iter (PySem.W.kdk_args_iter _) ?_
  unfold Builtin.«iter»
  refine wpAny_bind (m := someArgs "iter" 1 2 _) (wpAny_of_eq (a := [Value.ref t]) (by first | rfl | kernel_rfl!) ?_)
  show wpAny _ _ (pyIter (.ref t) >>= _) _ _ _
  refine wpAny_bind (wpAny_pyIter_tuple (show s.heap.IsTuple t its.toArray from pl) ?_)
  have g : (s.heap.push (itTup t 0)).get? s.heap.objs.size = some (itTup t 0) := Heap.get?_push_size _ rfl
  have ok : ObjOk X.prog X.w (upd H s.heap.objs.size (ItT t s.heap.objs.size 0)) (s.heap.push (itTup t 0)) s.heap.objs.size (ItT t s.heap.objs.size 0) := ⟨g, ⟨_, g⟩, fun _ _ q k => k _ q⟩
  exact wpAny_pure ⟨_, rfl, .ref s.heap.objs.size, _, I.laid (t' := s.toks) (fun b u e => Heap.get?_push_of_some _ e) (Nat.le_refl _) ok, relR _, q _ (I.hok.fresh (Nat.le_refl _)) I.sz⟩
end

/-- a promise that may speak of how many objects there are when the def is called -/
def FnIt (P : Program) (w : World) (K : PySem.W.Frag) (mg : Str → Option Value) (base : Heap) (k : Nat) (f : Addr) (fd : FuncData) (ps : List Str) (sp : Nat → List V → Hp → VK → Prop) : Prop :=
  ∀ (A : Around) (outer : List Env) (s : Shared) (H : Hp) (us : List Value) (vs : List V) (Q : VK), Room k A → Env0 P w K mg base A outer s H → BindsTo s fd ⟨us, []⟩ (ps.zip us) → vs.length = ps.length → Vals vs us →
    sp s.heap.objs.size vs H Q → codeAny (model P w) A (.call (.ref f) ⟨us, []⟩) (CR CX0 outer P w H s Q E0) s
section
variable {P : Program} {w : World} {K : PySem.W.Frag} {mg : Str → Option Value} {base : Heap}
theorem fnIt_of {x qual : Str} {st : Stmt} {f : Addr} {fd : FuncData} {N ps : List Str} {k : Nat} {sp : Nat → List V → Hp → VK → Prop} (F : Fun K x qual st f fd) (S : FnScope N ps (defScope st))
    (hbody : ∀ (cdv : Value) (A : Around) (outer : List Env) (s : Shared) (H : Hp) (vs : List V) (Q : VK), Room k (A.deeper (envOfC qual (defScope st) s.heap.objs.size f cdv)) → sp s.heap.objs.size vs H Q →
      ∃ t, PSs (cxOf CX0 P w K mg base N qual (defScope st) f cdv A outer s H E0).nox (defBody st) t ∧ t { nx := fun _ H' => Q .non H', rt := Q } (start N vs) H) : FnIt P w K mg base (k + 1) f fd ps sp := by
  obtain ⟨oc, od, kV, doc, pm, an, cdv, ct, osl, rfl, lk, hcd⟩ := F.ex
  intro A outer s H us vs Q hr e0 hb hl r hsp
  have kin : K.In s.heap := e0.mod.kin.keeps fun b o e => (e0.bs b o e).1
  have lim : s.heap.NoLimit := e0.mod.nolimit.keeps fun b o e => (e0.bs b o e).1
  have kinds : ∀ y ∈ ps.zip us, (defScope st).names.lookup y.1 = some .local ∨ ((defScope st).names.lookup y.1 = some .cell ∧ ((cellsFrom (s.heap.objs.size + 1) (defScope st).names []).lookup y.1).isSome = true) := by
    intro y hy
    cases S.par y.1 (List.of_mem_zip (a := y.1) (b := y.2) hy).1 with
    | inl q => exact .inl q
    | inr q => exact .inr ⟨q, PySem.W.cellsFrom_some _ _ _ (.inl q)⟩
  apply codeAny_call_function hr.depth (kin _ _ lk) rfl S.co S.gen rfl (PySem.W.codeRec_of kin hcd) (hb _ _ _ _ ?_)
  apply wpAny_newFunctionEnv_cells S.kind kinds
  intro env he s1 x
  subst he
  refine ⟨lim.keeps x.toInCall.keep, codeAny_func ?_⟩
  obtain ⟨t, ht, hq⟩ := hbody cdv A outer s H vs Q (hr.deeper _) hsp
  have I := inv_start (CX := CX0) (P := P) (w := w) (E := E0) (cd := cdv) (qual := qual) (f := f) (outer := outer) S hr.hd e0 hl r x
  refine wpAny_mono (ht.nox.run [] s1 (start N vs) H _ I hq) (fun fl s' hs => ?_) fun e s' hs => hs
  match fl, hs with
  | .ret u, ⟨v, σ', H', J, rv, q⟩ => exact ⟨v, H', J.os, J.bare, J.base, J.hok, rv, q⟩
  | .next, ⟨σ', H', J, q⟩ => exact ⟨V.non, H', J.os, J.bare, J.base, J.hok, rfl, q⟩
  | .brk, ⟨_, _, _, q⟩ => exact False.elim q
  | .cont, ⟨_, _, _, q⟩ => exact False.elim q
end
/-- what such an __iter__ promises -/
def spIter (K : PySem.W.Frag) (C : Addr) (fld : Str) : Nat → List V → Hp → VK → Prop := fun n vs H Q => ∃ a dx fs t zs, vs = [.ref a] ∧ H a = some (.ins C dx fs) ∧ fs.lookup fld = some (.ref t) ∧ SqT K H t zs ∧
  ∀ it, H it = Option.none → n ≤ it → Q (.ref it) (upd H it (ItT t it 0))
/-- x in o, for a loop: o's own tuple is walked -/
def iOwn (K : PySem.W.Frag) (C : Addr) (fld : Str) (to : TE) : TI := fun σ H R => to σ H fun x H1 => ∃ a dx fs t zs, x = .ref a ∧ H1 a = some (.ins C dx fs) ∧ fs.lookup fld = some (.ref t) ∧ SqT K H1 t zs ∧ R (Itt K t) H1
section
variable {X : Cx} {k : Nat} {f C : Addr} {fd : FuncData} {fld : Str} {tg o : Expr} {to : TE} {pins : List (Addr × Obj)} {σ : L2.St} {H : Hp} {s : Shared} {A1 : Around}
theorem run_iter {a t dx : Addr} {fs : List (Str × V)} {zs : List V} (F : FnIt X.prog X.w X.K X.mg X.base k f fd ["self"] (spIter X.K C fld)) (sb : Sub X k A1) (hb : Binds X.K fd ["self"] []) (I : Inv X pins σ H s)
    (ha : H a = some (.ins C dx fs)) (hf : fs.lookup fld = some (.ref t)) (ht : SqT X.K H t zs) {E : Value → Shared → Prop} :
    wpAny (model X.prog X.w) A1 (call (.ref f) [.ref a]) (fun u s' => ∃ it, u = .ref it ∧ s.heap.objs.size ≤ it ∧ H it = Option.none ∧ Inv X pins σ (upd H it (ItT t it 0)) s') E s := by
  have hb1 : BindsTo s fd ⟨[.ref a], []⟩ ((["self"] : List Str).zip [Value.ref a]) := by
    have z := hb s [.ref a] I.kIn rfl
    exact z
  refine wpAny_call (codeAny_mono (F A1 X.stack s H [.ref a] [.ref a] (fun v H' => ∃ it, v = .ref it ∧ s.heap.objs.size ≤ it ∧ H it = Option.none ∧ H' = upd H it (ItT t it 0)) sb.room (Sub.env0 sb I) hb1 rfl (.cons (relR a) .nil)
    ⟨a, dx, fs, t, zs, rfl, ha, hf, ht, fun it h0 hn => ⟨it, rfl, hn, h0, rfl⟩⟩) fun z s' hq => ?_)
  match z, hq with
  | .error e, hq => exact hq.elim
  | .ok (.ret u), hq =>
    obtain ⟨v, H', I', rv, it, ev, hn, h0, eH⟩ := I.after hq
    subst ev
    rw [eH] at I'
    obtain rfl : u = Value.ref it := rv
    exact ⟨it, rfl, hn, h0, I'⟩
  | .ok .next, hq => exact False.elim hq
  | .ok .brk, hq => exact False.elim hq
  | .ok .cont, hq => exact False.elim hq
theorem pi_own (hd : Dn X.K C "__iter__" f) (F : FnIt X.prog X.w X.K X.mg X.base k f fd ["self"] (spIter X.K C fld)) (hr : Room k X.A) (hb : Binds X.K fd ["self"] []) (ho : PE X o to) : PI X tg o (iOwn X.K C fld to) := by
  refine ⟨fun pins s σ H R I h => ?_⟩
  refine thn (ho.run pins s σ H _ I h) fun u s1 ⟨x, H1, I1, rx, a, dx, fs, t, zs, ex, ha, hf, ht, q⟩ => ?_
  subst ex
  obtain rfl : u = Value.ref a := rx
  obtain ⟨mA, O, rr, _, _, _⟩ := ins_get I1.hok ha
  obtain ⟨od, J, hl⟩ := O.look
  obtain ⟨m0, hF⟩ := I1.fr
  refine PySem.W.owit_iter hF I1.ok.mod.kin J hd.at_ hd.fn (thn (run_iter F ⟨hr, rfl⟩ hb I1 ha hf ht) fun r s2 ⟨it, er, hn, h0, I2⟩ => ?_)
  subst er
  have e2 : upd H1 it (ItT t it 0) it = some (ItT t it 0) := upd_same
  have g : s2.heap.get? it = some (itTup t 0) := (I2.hok it _ e2).1
  have hT : s2.TypeIs (.ref it) "tuple_iterator" := ⟨_, g, rfl⟩
  have hfp := ItX.inv_fp I2 e2 (Nat.le_trans I1.sz hn)
  have I3 := ItX.inv_drop I2 e2
  rw [ItX.dropH_upd h0] at I3 hfp
  unfold PySem.W.OwitIt
  refine wpAny_specialOf (name := Str.ofString "__next__") hT PySem.F.slot_tuple_iterator_next.lookup ?_
  refine ⟨it, [it], _, _, H1, rfl, I3, turn_tuple t it, ⟨_, g, rfl, rfl⟩, fun b hb => ?_, q⟩
  rw [List.mem_singleton.mp hb]
  exact hfp
end
/-! C.m(e, .., k = v, ..), m a classmethod; cls(e, .., k = v, ..), cls a local name that holds the class -/
def tCMethK (C : Addr) (n m : Nat) (sp : Sp) (gV : List V → List V → List V) (E : XK) (ta : TE) (t tk : TA) : TE := fun σ H Q => ta σ H fun x H1 => x = .ref C ∧ t σ H1 fun vs H2 => tk σ H2 fun zs H3 => (.ref C :: vs).length = n ∧ zs.length = m ∧ sp (gV (.ref C :: vs) zs) H3 Q E
def tMakeLK (i : Nat) (C : Addr) (n m : Nat) (sp : Sp) (gV : List V → List V → List V) (E : XK) (t tk : TA) : TE := fun σ H Q => σ[i]? = some (some (.ref C)) ∧ tMakeK C n m sp gV E t tk σ H Q
section
variable {X : Cx} {CX : CXT} {k n i : Nat} {C p g f : Addr} {mc : Value} {sp : Sp} {E : XK} {o e : Expr} {es : List Expr} {kws : List Keyword} {m x : Str} {pos apos xpos : Pos} {ta : TE} {t tk : TA} {pl : Sem Bool} {fd : FuncData} {ps ks : List Str}
  {gv : List Value → List Value → List Value} {gV : List V → List V → List V}
theorem pe_cmethK (he : PE X o ta) (r : ClX.CRead X.K C mc) (c : ClX.CMet X.K C mc m p g) (F : FnOk X.prog X.w X.K X.mg X.base CX k g fd ps sp) (hr : Room k X.A) (hb : KBn X.K fd ps n ks gv gV) (hx : Passes CX X E) (ha : PA X (e :: es) t) (hkw : PK X kws tk)
    (hall : (backToKw pos (keywordEach kws X.env)).all (·.1.isSome) = true := by rfl) (hks : (backToKw pos (keywordEach kws X.env)).filterMap (·.1) = ks := by rfl)
    (hst : starEach (e :: es) X.env = (false, eval e X.env) :: starEach es X.env := by rfl) (hpl : ((backTo pos (starEach (e :: es) X.env)).any (·.1) || (backToKw pos (keywordEach kws X.env)).any (·.1.isNone)) = false := by rfl)
    (ht : eval (.Call (.Attribute o m apos) (e :: es) kws pos) X.env = (do
      let ov ← eval o X.env
      standAt apos.atName
      let (f, first) ← holding [ov] (getMethod ov m pl)
      callWith pos f first (backTo pos (starEach (e :: es) X.env)) (backToKw pos (keywordEach kws X.env))) := by rfl) :
    PE X (.Call (.Attribute o m apos) (e :: es) kws pos) (tCMethK C n ks.length sp gV E ta t tk) := by
  refine ⟨fun pins s σ H Q I h => ?_⟩
  refine PySem.W.methodCall_KW (pl := pl) (thn (he.run pins s σ H _ I h) fun u s1 ⟨x, H1, I1, rx, ex, q⟩ => ?_) ht
  subst ex
  obtain rfl : u = Value.ref C := rx
  refine ClX.getmethcm_ok I1 r c fun s2 I2 => ?_
  refine PySem.W.callWith_of (P := PySem.W.MethP X.K s1.heap.objs.size g (.ref C)) hpl (PySem.W.keeps_M c.fi) (evalArgs_kw2 hall (thn (ha.run pos _ s2 σ H1 _ I2 q) fun us s3 ⟨vs, H2, I3, rv, q2⟩ => ?_) hst)
  refine thn (hkw.run pos _ s3 σ H2 _ I3 q2) fun ws s4 ⟨zs, H3, I4, rz, l1, l2, q3⟩ => ⟨⟨ClX.pin_at I4, I4.kIn⟩, ?_⟩
  rw [hks]
  have r2 : Vals (V.ref C :: vs) (Value.ref C :: us) := .cons (relR C) rv
  have n1 : (Value.ref C :: us).length = n := r2.length.symm.trans l1
  have I5 := ClX.unpin I4
  refine wpAny_call (PySem.W.method_call (ClX.pin_at I4) (codeAny_mono (F.run X.A X.stack s4 H3 ⟨Value.ref C :: us, ks.zip ws⟩ _ _ Q E hr I5.env0 (hb.to _ (Value.ref C :: us) ws I5.kIn n1 (rz.length.symm.trans l2)) (hb.rel r2 rz) q3) fun z s' hq => ?_))
  match z, hq with
  | .error e, hq => exact hx pins σ H3 s4 e s' I5 hq
  | .ok (.ret u), hq => exact I5.after hq
  | .ok .next, hq => exact False.elim hq
  | .ok .brk, hq => exact False.elim hq
  | .ok .cont, hq => exact False.elim hq
theorem pe_makeLK (M : Mk X.K C f) (F : FnOk X.prog X.w X.K X.mg X.base CX k f fd ps sp) (hr : Room (k + 1) X.A) (hb : KBn X.K fd ps (n + 1) ks gv gV) (hx : Passes CX X E) (ha : PA X (e :: es) t) (hkw : PK X kws tk)
    (hN : X.N[i]? = some x) (hv : Vis X.env.scope x) (hd : (x == ("__debug__" : Str)) = false := by decide) (hcd : (x == ("__classdict__" : Str)) = false := by decide)
    (hall : (backToKw pos (keywordEach kws X.env)).all (·.1.isSome) = true := by rfl) (hks : (backToKw pos (keywordEach kws X.env)).filterMap (·.1) = ks := by rfl)
    (hst : starEach (e :: es) X.env = (false, eval e X.env) :: starEach es X.env := by rfl) (hpl : ((backTo pos (starEach (e :: es) X.env)).any (·.1) || (backToKw pos (keywordEach kws X.env)).any (·.1.isNone)) = false := by rfl) :
    PE X (.Call (.Name x xpos) (e :: es) kws pos) (tMakeLK i C n ks.length sp gV E t tk) := by
  refine ⟨fun pins s σ H Q I ⟨h0, h⟩ => ?_⟩
  refine wpAny_Call_Name_kw (thn ((pe_var (pos := xpos) (i := i) hN hv hd hcd).run pins s σ H (fun v H1 => v = .ref C ∧ H1 = H) I ⟨.ref C, h0, rfl, rfl⟩) fun u s1 ⟨v, H1, I1, r1, ev, eH⟩ => ?_)
  subst ev
  rw [eH] at I1
  obtain rfl : u = Value.ref C := r1
  refine PySem.W.callWith_KW (h₀ := X.base) I1.ok.mod.kin M.kp hall (thn (ha.run pos pins s1 σ H _ I1 h) fun us s2 ⟨vs, H2, I2, r, q⟩ => ?_) hpl hst
  refine thn (hkw.run pos pins s2 σ H2 _ I2 q) fun ws s3 ⟨zs, H3, I3, rz, l1, l2, q2⟩ => ⟨I3.kIn, ?_⟩
  rw [hks]
  exact run_makeK M F hr hb hx I3 r rz l1 l2 q2
end

/-! heaps that only grow -/
theorem Same.up {H : Hp} {p : Addr} {o : HO} (h : H p = Option.none) : Same H (upd H p o) := fun b u e => by
  rw [upd_ne (ne_of_none e h)]
  exact e
/-- a list under way at D, which was not there in H1 -/
structure Acc (H1 : Hp) (D : Addr) (acc : List V) (H : Hp) : Prop where
  s : Same H1 H
  n : H1 D = Option.none
  a : H D = some (.lst acc)
theorem Acc.start {H1 : Hp} {D : Addr} (n : H1 D = Option.none) : Acc H1 D [] (upd H1 D (.lst [])) := ⟨Same.up n, n, upd_same⟩
theorem Acc.same {H1 H H' : Hp} {D : Addr} {acc : List V} (h : Acc H1 D acc H) (s : Same H H') : Acc H1 D acc H' := ⟨h.s.trans s, h.n, s _ _ h.a⟩
theorem Acc.push {H1 H : Hp} {D : Addr} {acc zs : List V} (h : Acc H1 D acc H) : Acc H1 D zs (upd H D (.lst zs)) :=
  ⟨fun b o e => by rw [upd_ne (ne_of_none e h.n)]; exact h.s b o e, h.n, upd_same⟩
theorem Same.none' {H H' : Hp} (s : Same H H') {p : Addr} (h : H' p = Option.none) : H p = Option.none := s.free h
theorem Same.of_upd {H H' : Hp} {p : Addr} {o : HO} (h : H p = Option.none) (s : Same (upd H p o) H') : Same H H' := (Same.up h).trans s
/-- a list of ints as values -/
theorem ints_at {ns : List Int} {i : Nat} {x : V} (h : (ns.map V.int)[i]? = some x) : ∃ (hi : i < ns.length), x = .int ns[i] := by
  rw [List.getElem?_map] at h
  cases e : ns[i]? with
  | none => rw [e] at h; cases h
  | some u =>
    rw [e] at h
    obtain ⟨hi, rfl⟩ := List.getElem?_eq_some_iff.mp e
    exact ⟨hi, (Option.some.inj h).symm⟩

/-! comprehensions that pick -/
section
variable {α : Type} {H1 H : Hp} {D : Addr} {ks : List α} {f : α → Option V} {i : Nat} {c : α → V}
def PickI (H1 : Hp) (D : Addr) (ks : List α) (f : α → Option V) : Nat → Hp → Prop := fun i H => Acc H1 D ((ks.take i).filterMap f) H
theorem pick_start (n : H1 D = Option.none) : PickI H1 D ks f 0 (upd H1 D (.lst [])) := Acc.start n
theorem take_fm (hi : i < ks.length) : (ks.take (i + 1)).filterMap f = (ks.take i).filterMap f ++ (f ks[i]).toList := by
  rw [List.take_succ_eq_append_getElem hi, List.filterMap_append]
  cases h : f ks[i] <;> simp [h]
theorem pick_yes {H' : Hp} {y : V} (hi : i < ks.length) (hl : ks.length ≤ 1000) (e : f ks[i] = some y) (s : Same H H') (h : PickI H1 D ks f i H) :
    ∃ acc, H' D = some (.lst acc) ∧ acc.length < sizeLine ∧ PickI H1 D ks f (i + 1) (upd H' D (.lst (acc ++ [y]))) := by
  have h2 := Acc.same h s
  refine ⟨_, h2.a, small1000 ?_, ?_⟩
  · exact Nat.le_trans (Nat.le_trans (List.length_filterMap_le _ _) (List.length_take_le _ _)) (by omega)
  · unfold PickI
    rw [take_fm hi, e]
    exact h2.push
theorem pick_no {H' : Hp} (hi : i < ks.length) (e : f ks[i] = none) (s : Same H H') (h : PickI H1 D ks f i H) : PickI H1 D ks f (i + 1) H' := by
  unfold PickI
  rw [take_fm hi, e, Option.toList_none, List.append_nil]
  exact Acc.same h s
theorem pick_end {m : Nat} (hm : m = ks.length) (h : PickI H1 D ks f m H) : Acc H1 D (ks.filterMap f) H := by
  subst hm
  unfold PickI at h
  rw [List.take_length] at h
  exact h
theorem map_at {x : V} (h : (ks.map c)[i]? = some x) : ∃ hi : i < ks.length, x = c ks[i] := by
  rw [List.getElem?_map] at h
  cases e : ks[i]? with
  | none => rw [e] at h; cases h
  | some u =>
    rw [e] at h
    obtain ⟨hi, rfl⟩ := List.getElem?_eq_some_iff.mp e
    exact ⟨hi, (Option.some.inj h).symm⟩
end
end Tw

set_option Elab.async false
set_option linter.all false
set_option maxRecDepth 100000
set_option maxHeartbeats 2000000
namespace Tw
open PySem PySem.Spec PyProof.Rows L2
open PySem.W (InstAt looks_findIn looks_subIn ifBound_K cmp_K)
/-- a class with an own __eq__ and the usual != -/
structure EqC (K : PySem.W.Frag) (C f : Addr) : Prop where
  eq : PySem.W.findIn K (.ref C) "__eq__" = some (some (.ref f))
  fn : PySem.W.isFn K (.ref f) = true
  ne : PySem.W.findIn K (.ref C) "__ne__" = some (some (.builtin "object.__ne__"))
  ob : PySem.W.subIn K (.ref C) (.type "object") = some true
  ni : PySem.W.subIn K (.type "int") (.ref C) = some false
  nt : PySem.W.subIn K (.type "tuple") (.ref C) = some false

section
variable {prog : Program} {w : World} {A : Around} {E : Value → Shared → Prop} {s : Shared} {K : PySem.W.Frag} {x C L f : Addr} {h₀ : Heap} {m : Str → Option Value} {ox : Obj} {od : Option Obj} {b tb : Value}
theorem ne_entry {Q : PySem.Fin → Shared → Prop} (hu : A.units < cLine) (X : K.In s.heap) (I : InstAt s.heap x ox C od) (c : EqC K C f)
    (h : wpAny (model prog w) A (call (.ref f) [.ref x, b]) (fun v s' => ∃ r, v = .bool r ∧ Q (.done (.ret (.bool (!r)))) s') E s) :
    wpAny (model prog w) A (Builtin.«object.__ne__» ⟨[.ref x, b], []⟩) Q E s := by
  unfold Builtin.«object.__ne__»
  refine wpAny_bind (wpAny_of_eq (a := (Value.ref x, [b])) (by first | rfl | kernel_rfl!) ?_)
  refine wpAny_bind (wpAny_cRoomFor hu ?_)
  refine wpAny_bind (m := callSpecialIfBound? (.ref x) (Str.ofString "__eq__") [b]) (ifBound_K X I c.eq c.fn (wpAny_mono h (fun v s' hv => ?_) fun _ _ e => e))
  obtain ⟨r, e, q⟩ := hv
  subst e
  refine wpAny_bind (m := truthy (.bool r)) (wpAny_truthy_bool ?_)
  exact wpAny_pure q
theorem ne_call {Q : Value → Shared → Prop} (hu : A.in1.units < cLine) (X : K.In s.heap) (I : InstAt s.heap x ox C od) (c : EqC K C f)
    (h : wpAny (model prog w) A.in1 (call (.ref f) [.ref x, b]) (fun v s' => ∃ r, v = .bool r ∧ Q (.bool (!r)) s') E s) :
    wpAny (model prog w) A (call (.builtin "object.__ne__") [.ref x, b]) Q E s := by
  have t2 : PySem.W.Looks (model prog w) s.heap (isInstance (.ref x) (.type "object")) true := I.type.andThen (looks_subIn X c.ob)
  refine wpAny_call (codeAny_call_builtin F.cmp_object.ne.plain F.cmpEntry_ne (PySem.W.check_slot F.cmpKind_ne F.cmpSplit_ne t2 (F.cmpArgs_ne _ _) (ne_entry hu X I c (wpAny_mono h (fun v s' hv => ?_) fun _ _ e => e))))
  obtain ⟨r, e, q⟩ := hv
  exact ⟨r, e, q⟩
theorem ne_bound {Q : Option Value → Shared → Prop} (hu : A.in1.units < cLine) (X : K.In s.heap) (I : InstAt s.heap x ox C od) (c : EqC K C f)
    (h : wpAny (model prog w) A.in1 (call (.ref f) [.ref x, b]) (fun v s' => ∃ r, v = .bool r ∧ Q (some (.bool (!r))) s') E s) :
    wpAny (model prog w) A (callSpecialIfBound? (.ref x) "__ne__" [b]) Q E s := by
  simp only [callSpecialIfBound?, bindSpecialIfBound?]
  refine wpAny_holding (wpAny_bind (wpAny_bind (wpAny_bind (I.type.here ((looks_findIn X c.ne).here ?_)))))
  refine wpAny_bind (wpAny_askSetting (wpAny_ite ?_))
  have fin : wpAny (model prog w) A (call (.builtin "object.__ne__") ([.ref x] ++ [b]) >>= fun v => pure (some v)) Q E s :=
    wpAny_bind (ne_call hu X I c (wpAny_mono h (fun v s' ⟨r, e, q⟩ => ⟨r, e, wpAny_pure q⟩) fun _ _ e => e))
  have bd := F.cmp_object.ne.bind (.ref x)
  split
  · refine wpAny_bind ?_
    rw [bd]
    exact wpAny_pure (wpAny_pure (by exact fin))
  · refine wpAny_tryCatch (wpAny_bind ?_)
    rw [bd]
    exact wpAny_pure (wpAny_pure (by exact fin))
theorem ne_K {Q : Value → Shared → Prop} (hu : A.in1.units < cLine) (hu0 : A.units < cLine) (F : Fr h₀ L s.heap m) (X₀ : K.In h₀) (I : InstAt s.heap x ox C od) (hb : PySem.W.Looks (model prog w) s.heap (typeOf b) tb) (hn : PySem.W.notFirst K C tb = true) (c : EqC K C f)
    (h : wpAny (model prog w) A.in1 (call (.ref f) [.ref x, b]) (fun v s' => ∃ r, v = .bool r ∧ Q (.bool (!r)) s') E s) : wpAny (model prog w) A (richCompare .NotEq (.ref x) b) Q E s := by
  have X := X₀.keeps F.keep
  have one : wpAny (model prog w) A (tryCompare (.ref x) (cmpInfo .NotEq).2.1 b) (fun r s' => ∃ v, r = some v ∧ Q v s') E s := by
    unfold tryCompare
    refine wpAny_bind (ne_bound hu X I c (wpAny_mono h (fun v s' ⟨r, e, q⟩ => ⟨r, e, ?_⟩) fun _ _ e => e))
    exact wpAny_pure ⟨_, rfl, q⟩
  have two : ∀ r s', (∃ v, r = some v ∧ Q v s') → ∃ v, r = some v ∧ Q v s' := fun _ _ z => z
  unfold richCompare
  simp only [oneThing_ref]
  refine wpAny_holding (wpAny_bind (wpAny_cRoomFor hu0 ?_))
  refine wpAny_bind (I.type.here (wpAny_bind (hb.here ?_)))
  split
  · rename_i q
    have e : PySem.W.subIn K tb (.ref C) = some false := by
      rcases Bool.or_eq_true_iff.mp hn with e | e
      · rw [beq_iff_eq.mp e] at q; simp at q
      · exact beq_iff_eq.mp e
    refine wpAny_bind ((looks_subIn X e).here ?_)
    simp only [Bool.false_eq_true, if_false]
    refine wpAny_bind (wpAny_mono one (fun r s' ⟨v, ev, hq⟩ => ?_) fun _ _ e => e)
    subst ev
    exact wpAny_pure hq
  · refine wpAny_bind (wpAny_pure ?_)
    simp only [Bool.false_eq_true, if_false]
    refine wpAny_bind (wpAny_mono one (fun r s' ⟨v, ev, hq⟩ => ?_) fun _ _ e => e)
    subst ev
    exact wpAny_pure hq
end
/-! as rules -/
section
variable {X : Cx} {CX : CXT} {k : Nat} {f C : Addr} {fd : FuncData} {ps : List Str} {sp : Sp} {E : XK}
/-- the other operand: an instance of the same class, an int, a tuple -/
inductive Oth (H : Hp) (C : Addr) : V → Prop where
  | ins {a dx : Addr} {fs : List (Str × V)} (h : H a = some (.ins C dx fs)) : Oth H C (.ref a)
  | int (i : Int) : Oth H C (.int i)
  | tup {a : Addr} {xs : List V} (h : H a = some (.tup xs)) : Oth H C (.ref a)
def rEqO (C : Addr) (sp : Sp) (E : XK) (neg : Bool) : R2 := fun x y H Q =>
  ∃ a dx fs, x = .ref a ∧ H a = some (.ins C dx fs) ∧ Oth H C y ∧ sp [.ref a, y] H (fun v H' => ∃ r, v = .bl r ∧ Q (.bl (if neg then !r else r)) H') E
theorem oth_type {pins : List (Addr × Obj)} {σ : L2.St} {H : Hp} {s : Shared} {y : V} {u : Value} (I : Inv X pins σ H s) (ry : RelV y u) (c : EqC X.K C f) (o : Oth H C y) :
    ∃ tb, PySem.W.Looks (model X.prog X.w) s.heap (typeOf u) tb ∧ PySem.W.notFirst X.K C tb = true := by
  cases o with
  | @ins a dx fs h =>
    obtain rfl : u = Value.ref a := ry
    obtain ⟨mA, O, rr, _, _, _⟩ := ins_get I.hok h
    obtain ⟨od, J, hl⟩ := O.look
    exact ⟨_, J.type, by unfold PySem.W.notFirst; simp⟩
  | int i =>
    obtain ⟨t, rfl⟩ := ry
    exact ⟨.type "int", .now, by unfold PySem.W.notFirst; rw [c.ni]; simp⟩
  | @tup a xs h =>
    obtain rfl : u = Value.ref a := ry
    obtain ⟨_, _, _, ob, h1, h2, _⟩ := (show ObjOk X.prog X.w H s.heap a (.tup xs) from I.hok a _ h)
    exact ⟨.type "tuple", h2 ▸ (PySem.W.Looks.ld h1).andThen .now, by unfold PySem.W.notFirst; rw [c.nt]; simp⟩
theorem op_eq_own (c : EqC X.K C f) (F : FnOk X.prog X.w X.K X.mg X.base CX k f fd ps sp) (hr : Room k X.A) (hb : Binds X.K fd ps []) (hx : Passes CX X E) : OpR X (compareOp .Eq) (rEqO C sp E false) := by
  intro pins s σ H x y v u Q I rx ry ⟨a, dx, fs, ex, ha, o, q⟩
  subst ex
  obtain rfl : v = Value.ref a := rx
  obtain ⟨mA, O, rr, _, _, _⟩ := ins_get I.hok ha
  obtain ⟨od, J, hl⟩ := O.look
  obtain ⟨m0, hF⟩ := I.fr
  obtain ⟨tb, lk, nf⟩ := oth_type I ry c o
  show wpAny _ _ (richCompare .Eq (.ref a) u) _ _ _
  refine cmp_K hr.units0 hF I.ok.mod.kin J lk nf c.eq c.fn (thn (run_sub F ⟨hr, rfl⟩ hb hx I (.cons (relR a) (.cons ry .nil)) q) fun r s' ⟨z, H', I', rz, b, ez, q'⟩ => ?_)
  subst ez
  obtain rfl : r = Value.bool b := rz
  exact ⟨_, H', I', relB b, q'⟩
theorem op_ne_own (c : EqC X.K C f) (F : FnOk X.prog X.w X.K X.mg X.base CX k f fd ps sp) (hr : Room (k + 1) X.A) (hb : Binds X.K fd ps []) (hx : Passes CX X E) : OpR X (compareOp .NotEq) (rEqO C sp E true) := by
  intro pins s σ H x y v u Q I rx ry ⟨a, dx, fs, ex, ha, o, q⟩
  subst ex
  obtain rfl : v = Value.ref a := rx
  obtain ⟨mA, O, rr, _, _, _⟩ := ins_get I.hok ha
  obtain ⟨od, J, hl⟩ := O.look
  obtain ⟨m0, hF⟩ := I.fr
  obtain ⟨tb, lk, nf⟩ := oth_type I ry c o
  show wpAny _ _ (richCompare .NotEq (.ref a) u) _ _ _
  refine ne_K (Room.units0 hr.in1) hr.units0 hF I.ok.mod.kin J lk nf c (thn (run_sub F (Sub.in1 ⟨hr, rfl⟩) hb hx I (.cons (relR a) (.cons ry .nil)) q) fun r s' ⟨z, H', I', rz, b, ez, q'⟩ => ?_)
  subst ez
  exact ⟨b, rz, _, H', I', relB (!b), q'⟩
end
end Tw

set_option Elab.async false
set_option linter.all false
set_option maxRecDepth 100000
set_option maxHeartbeats 4000000
namespace Tw
open PySem PySem.Spec PyProof.Rows L2
/-! enumerate(t), t a tuple -/
def enO (s : Shared) : Obj := { cls := .type "enumerate", data := .fields #[.none, .bool false, .ref s.heap.objs.size, rawInt 0, .none, .none] }
theorem enum_newT (t : Addr) (items : Array Value) :
    Meets (Builtin.«enumerate.__new__» ⟨[.type "enumerate", .ref t], []⟩) (fun _ R s => s.heap.IsTuple t items ∧
      R (.ok (.ret (.ref (s.heap.push (itTup t 0)).objs.size))) { s with heap := (s.heap.push (itTup t 0)).push (enO s) }) :=
  .of_wp fun prog w A R s h => by
    obtain ⟨hp, g, d, tk, os⟩ := s
    obtain ⟨h1, h⟩ := h
    have hsub := sub_enumerate
    have q1 : ∀ {A' : Around} {E : Value → Shared → Prop} {Q : Value → Shared → Prop}, Q (.ref hp.objs.size) ⟨hp.push (itTup t 0), g, d, tk, os⟩ → wpAny (model prog w) A' (pyIter (.ref t)) Q E ⟨hp, g, d, tk, os⟩ :=
      fun q => wpAny_pyIter_tuple (s := ⟨hp, g, d, tk, os⟩) h1 q
    wp_walk using q1
    refine wpAny_stack_any fun st => wpAny_pure ?_
    split
    · rename_i c _ _ _ _ _
      cases (c == Value.type "enumerate")
      · wp_walk using q1
        exact ⟨_, rfl, h⟩
      · wp_walk using q1
        exact ⟨_, rfl, h⟩
    · wp_walk using q1
      exact ⟨_, rfl, h⟩
section
variable {prog : Program} {w : World} {A : Around} {E : Value → Shared → Prop} {s : Shared}
theorem call_enumT {t : Addr} {items : Array Value} {Q : Value → Shared → Prop} (hT : s.heap.IsTuple t items)
    (h : ∀ h', IsEnum h' (s.heap.objs.size + 1) s.heap.objs.size 0 .none → h'.IsTupleIter s.heap.objs.size t 0 → h'.objs.size = s.heap.objs.size + 2 →
      (∀ b o, s.heap.get? b = some o → h'.get? b = some o) → Q (.ref (s.heap.objs.size + 1)) { s with heap := h' }) :
    wpAny (model prog w) A (call (.type "enumerate") [.ref t]) Q E s := by
  refine callType_new F.called_enumerate (by decide) (F.typeCall_enumerate_1 _) (F.newCall_enumerate_1 _) (fun obj => F.args_object_init_2 obj _) F.entry_enumerate_new (enum_newT t items) ⟨hT, ?_⟩
  have hz : (s.heap.push (itTup t 0)).objs.size = s.heap.objs.size + 1 := Heap.size_push ..
  show _ ∧ _
  rw [hz]
  have he : IsEnum ((s.heap.push (itTup t 0)).push (enO s)) (s.heap.objs.size + 1) s.heap.objs.size 0 .none := by
    have q := Heap.get?_push_size (s.heap.push (itTup t 0)) (o := enO s) rfl
    rw [hz] at q
    exact q
  have hi : ((s.heap.push (itTup t 0)).push (enO s)).IsTupleIter s.heap.objs.size t 0 := ⟨_, Heap.get?_push_of_some _ (Heap.get?_push_size _ rfl), rfl, rfl⟩
  exact ⟨⟨_, he, rfl⟩, h _ he hi (by rw [Heap.size_push, hz]) fun b o x => Heap.get?_push_of_some _ (Heap.get?_push_of_some _ x)⟩
end
def IteT (K : PySem.W.Frag) (a : Addr) : It :=
  ⟨fun i H => ∃ (xs : List V) (x : V), SqT K H a xs ∧ xs[i]? = some x, fun i H v H' => ∃ T x, v = .ref T ∧ H T = Option.none ∧ H' = upd H T (.tup [.int (i : Nat), x]) ∧ ∀ xs, SqT K H a xs → xs[i]? = some x, fun i H => ∃ xs : List V, SqT K H a xs ∧ xs.length = i⟩
theorem turn_enumT {P : Program} {w : World} {K : PySem.W.Frag} {elts : List Expr} {kk : Nat} {tpos : Pos} (a e it : Addr) :
    Turn P w K (.Tuple elts kk tpos) (IteT K a) [e, it] e (fun i h => (∃ old, IsEnum h e it ((i : Nat) : Int) old) ∧ h.IsTupleIter it a i ∧ e ≠ it) where
  mem := by simp
  obj := fun i h st b hb => by
    obtain ⟨⟨old, he⟩, ⟨o, ho, hc, hd⟩, _⟩ := st
    rcases (show b = e ∨ b = it by simpa using hb) with rfl | rfl
    · exact ⟨_, he, fun v q => nomatch q⟩
    · exact ⟨o, ho, fun v q => by rw [hd] at q; cases q⟩
  keep := fun i h h' st k => let ⟨⟨old, he⟩, hi, hne⟩ := st; ⟨⟨old, k e (by simp) _ he⟩, hi.at fun o q => k it (by simp) o q, hne⟩
  item := by
    intro X hP hw hK hc i pins s σ H E I hf st hg
    subst hP hw hK
    obtain ⟨⟨old, he⟩, hit, hne⟩ := st
    obtain ⟨xs, x, hq, hx⟩ := hg
    obtain ⟨its, rv, p, hz⟩ := I.tuple hq
    have hil : i < xs.length := (List.getElem?_eq_some_iff.mp hx).1
    have hlen := rv.length
    have hel : e < s.heap.objs.size := Heap.lt_size he
    have hitl : it < s.heap.objs.size := by obtain ⟨_, q, _⟩ := hit; exact Heap.lt_size q
    have hae : e ≠ a := fun z => by
      obtain ⟨oo, h1, h2, _⟩ := p
      rw [← z, he] at h1
      cases h1
      injection h2 with q
      exact absurd q (by decide)
    have hia : it ≠ a := fun z => by
      obtain ⟨oo, h1, h2, _⟩ := p
      obtain ⟨o2, h3, h4, _⟩ := hit
      rw [← z, h3] at h1
      cases h1
      rw [h4] at h2
      injection h2 with q
      exact absurd q (by decide)
    have D := Draws.tuple (prog := X.prog) (w := X.w) (A := X.A.in1) (I.ok.hd hc) it a hia.symm its.toArray
    refine wpAny_pyNext_enum_itemD D he ⟨hit, p⟩ (by rw [List.size_toArray]; omega) hne (by simp [hne, hae]) fun u h' tk hu ho hst hT hsz hk => ?_
    obtain ⟨u2, hu2, ru⟩ := rv.get hx
    obtain rfl : u = u2 := by
      rw [List.getElem?_toArray] at hu
      exact Option.some.inj (hu.symm.trans hu2)
    refine ⟨_, rfl, wpAny_letOwnedTupleGo_enum (s := { s with heap := h', toks := tk + 1 }) ho fun h'' he' sb => ?_⟩
    have hT2 : h''.get? s.heap.objs.size = some { cls := .type "tuple", data := .seq #[.int i tk, u] } := (sb.2 _ (Nat.ne_of_gt hel)).trans hT
    have new : ObjOk X.prog X.w (upd H s.heap.objs.size (.tup [.int (i : Nat), x])) h'' s.heap.objs.size (.tup [.int (i : Nat), x]) :=
      ⟨by show 2 ≤ sizeLine; decide, [.int i tk, u], .cons ⟨_, rfl⟩ (.cons ru .nil), ⟨_, hT2, rfl, _, rfl⟩⟩
    have I1 : Inv X pins σ (upd H s.heap.objs.size (.tup [.int (i : Nat), x])) { s with heap := h'', toks := tk + 1 } :=
      I.turnedNew (ch := [e, it]) (fun b ob hb q => (sb.2 b (fun z => hb (by simp [z]))).trans (hk b ob (fun z => hb (by simp [z])) (fun z => hb (by simp [z])) q)) hf (Nat.le_refl _) new
    refine ⟨.ref s.heap.objs.size, _, I1, rfl, ⟨_, x, rfl, I.hok.fresh (Nat.le_refl _), rfl, fun ys hy => by rw [I.tuple_inj hy hq]; exact hx⟩, ⟨⟨u, ?_⟩, hst.1.at fun o q => (sb.2 it (Ne.symm hne)).trans q, hne⟩, fun b hb => ?_⟩
    · rw [show ((i + 1 : Nat) : Int) = (i : Int) + 1 by omega]
      exact he'
    · have hb' : b < s.heap.objs.size := by
        rcases (show b = e ∨ b = it by simpa using hb) with rfl | rfl
        · exact hel
        · exact hitl
      rw [upd_ne (Nat.ne_of_lt hb')]
      exact (hf b hb).1
  done := by
    intro X hP hw hK hc i pins s σ H E I hf st hg
    subst hP hw hK
    obtain ⟨⟨old, he⟩, hit, hne⟩ := st
    obtain ⟨xs, hq, hx⟩ := hg
    obtain ⟨its, rv, p, hz⟩ := I.tuple hq
    obtain ⟨f0, f1, f2, f3, f4, f5⟩ := hf it (by simp)
    have hlen := rv.length
    have hae : e ≠ a := fun z => by
      obtain ⟨oo, h1, h2, _⟩ := p
      rw [← z, he] at h1
      cases h1
      injection h2 with q
      exact absurd q (by decide)
    have hia : it ≠ a := fun z => by
      obtain ⟨oo, h1, h2, _⟩ := p
      obtain ⟨o2, h3, h4, _⟩ := hit
      rw [← z, h3] at h1
      cases h1
      rw [h4] at h2
      injection h2 with q
      exact absurd q (by decide)
    have D := Draws.tuple (prog := X.prog) (w := X.w) (A := X.A.in1) (I.ok.hd hc) it a hia.symm its.toArray
    have en : its.toArray.size = i := by rw [List.size_toArray]; omega
    refine wpAny_pyNext_enum_endD D he (by rw [en]; exact ⟨hit, p⟩) fun h' eb => ⟨rfl, I.turned (t' := s.toks) (fun b o hb q => eb b o hb q) f0 f1 f3 f4 f5⟩
  self := fun A i s Q E st h => let ⟨⟨_, he⟩, _⟩ := st; wpAny_pyIter_enum he h
theorem walk_enumT {K : PySem.W.Frag} {a : Addr} {xs : List V} : Walk (IteT K a) xs.length (fun H => SqT K H a xs) (YPair (fun i => some (.int (i : Nat))) (fun i => xs[i]?)) := by
  refine ⟨fun i _ hi q => ⟨xs, xs[i], q, by simp [hi]⟩, fun _ q => ⟨xs, q, rfl⟩, fun i H v H' _ q y => ?_⟩
  obtain ⟨T, x, h1, h2, h3, h4⟩ := y
  exact ⟨T, .int (i : Nat), x, h1, h2, h3, rfl, h4 xs q⟩
/-- enumerate of a list or of a tuple -/
def iEnS (K : PySem.W.Frag) (ta : TA) : TI := fun σ H R => ta σ H fun vs H1 => ∃ a xs, vs = [.ref a] ∧ ((SqL K H1 a xs ∧ R (Ite K a) H1) ∨ (SqT K H1 a xs ∧ R (IteT K a) H1))
theorem pi_enS {X : Cx} {e : Expr} {ta : TA} {p pos tpos : Pos} {elts : List Expr} {kk : Nat} (hg : Gl X "enumerate") (hm : X.mg "enumerate" = Option.none) (ha : PA X [e] ta) (hs : starEach [e] X.env = [(false, eval e X.env)] := by rfl) :
    PI X (.Tuple elts kk tpos) (.Call (.Name "enumerate" p) [e] [] pos) (iEnS X.K ta) := by
  refine ⟨fun pins s σ H R I h => ?_⟩
  refine Call_ (ld_blt I hg hm boot_enumerate (PyProof.Rows.callWith_type1 (thn (ha.run pos pins s σ H _ I h) fun us s1 ⟨vs, H1, I1, r1, a, xs, ex, q1⟩ => ?_) hs rfl))
  subst ex
  obtain ⟨u, rfl, ru⟩ := r1.one
  obtain rfl : u = Value.ref a := ru
  have fr : ∀ b ∈ [s1.heap.objs.size + 1, s1.heap.objs.size], FpOk X pins H1 b := fun b hb => by
    have hle : s1.heap.objs.size ≤ b := by
      rcases (show b = s1.heap.objs.size + 1 ∨ b = s1.heap.objs.size by simpa using hb) with z | z <;> omega
    exact I1.fpOk hle (I1.hok.fresh hle)
  rcases q1 with ⟨hq, q⟩ | ⟨hq, q⟩
  · obtain ⟨its, rv, p', hz⟩ := I1.list hq
    exact call_enumerate_list p'.isList fun h' he hit hsz hk => wpAny_pyIter_enum he ⟨_, _, _, _, H1, rfl, I1.kept (t' := s1.toks) hk, turn_enum a (s1.heap.objs.size + 1) s1.heap.objs.size, ⟨⟨.none, he⟩, hit, Nat.succ_ne_self _⟩, fr, q⟩
  · obtain ⟨its, rv, p', hz⟩ := I1.tuple hq
    exact call_enumT p' fun h' he hit hsz hk => wpAny_pyIter_enum he ⟨_, _, _, _, H1, rfl, I1.kept (t' := s1.toks) hk, turn_enumT a (s1.heap.objs.size + 1) s1.heap.objs.size, ⟨⟨.none, he⟩, hit, Nat.succ_ne_self _⟩, fr, q⟩
end Tw

set_option Elab.async false
set_option linter.all false
set_option maxRecDepth 100000
set_option maxHeartbeats 2000000
/-! own rules: min(xs, key=lambda x: ys[x]), ys a name of the def -/
namespace Cl
open PySem PySem.Spec PyProof.Rows L2 LamX
section
variable {prog : Program} {w : World} {A : Around} {E : Value → Shared → Prop} {s : Shared}
/-- what the lambda's scope must say -/
structure LSc (scope : Scope) (x y : Str) : Prop where
  kind : scope.kind = .function
  co : scope.isCoroutine = false
  gen : scope.isGenerator = false
  nocell : ∀ z ∈ scope.names, z.2 ≠ .cell
  px : scope.names.lookup x = some .local
  fy : scope.names.lookup y = some .free
/-- lambda x: y[x], called with an int -/
theorem lam_ix {f l c' ck : Addr} {q x y : Str} {params : Arguments} {p1 p2 p3 : Pos} {scope : Scope} {cl : List (Str × Addr)} {pm ctv u : Value} {vs : List Value} {i : Int} {t : Tok} {Q : Value → Shared → Prop}
    (S : LSc scope x y) (hd : A.depth < recursionLimit) (hf : s.heap.get? f = some (PySem.W.kla_obj "<lambda>" q params (.Subscript (.Name y p1) (.Name x p2) p3) scope cl pm c' ctv))
    (hbind : ∀ v : Value, bindArgs (PySem.W.kla_fn "<lambda>" q params (.Subscript (.Name y p1) (.Name x p2) p3) scope cl pm (.ref c') ctv) ⟨[v], []⟩ = pure [(x, v)])
    (hcode : ∃ (oc : Obj) (us : Array Value) (tk : Tok), s.heap.get? c' = some oc ∧ oc.data = .fields us ∧ us[1]? = some (.str q tk)) (hlim : s.heap.NoLimit)
    (hck : cl.lookup y = some ck) (hcell : s.heap.IsCell ck (some (.ref l))) (hl : s.heap.IsList l vs.toArray) (h0 : 0 ≤ i) (h1 : i < 2 ^ 63) (hi : vs[i.toNat]? = some u)
    (hdx : (x == ("__debug__" : Str)) = false) (hdy : (y == ("__debug__" : Str)) = false) (hcy : (y == ("__classdict__" : Str)) = false)
    (h : ∀ h' tk, s.toks ≤ tk → (∀ b o, s.heap.get? b = some o → h'.get? b = some o) → Q u { s with heap := h', toks := tk }) : wpAny (model prog w) A (call (.ref f) [.int i t]) Q E s := by
  obtain ⟨oc, us, tq, hoc, hdc, hvc⟩ := hcode
  refine wpAny_call (PySem.W.kla_callFunE hd hf rfl S.co S.gen rfl ⟨c', oc, us, tq, rfl, hoc, hdc, hvc⟩ ?_)
  rw [hbind]
  refine wpAny_pure (wpAny_newFunctionEnv S.nocell (fun z hz => by rw [List.mem_singleton.mp hz]; exact S.px) (fun h₁ hns hsb => ⟨hlim.fresh _ hsb, ?_⟩) S.kind)
  have kp : ∀ b o, s.heap.get? b = some o → h₁.get? b = some o := fun b o e => hsb.extBut b o (Nat.ne_of_lt (Heap.lt_size e)) (Heap.get?_push_of_some _ e)
  refine PySem.W.kla_codeExpr ?_
  refine wpAny_Subscript_Name list_getitem_lookup ?_
  refine wpAny_Name (wpAny_loadName_free S.kind S.fy hck (hcell.keeps kp) ?_ hcy) hdy
  refine wpAny_Name (wpAny_loadName_local S.kind S.px hns (v := .int i t) ?_ ?_) hdx
  · simp [List.lookup]
  · have hl' : h₁.IsList l vs.toArray := hl.at fun o e => kp _ _ e
    refine ⟨hl'.typeIs, wpAny_getItem_list hl' h0 h1 (by simpa using hi) ?_⟩
    exact h h₁ _ (by show s.toks ≤ s.toks + _; omega) kp
/-- what a lambda x: y[x] is, and what it reads -/
structure LamAt (h : Heap) (f : Addr) (x y : Str) (q : Str) (params : Arguments) (p1 p2 p3 : Pos) (scope : Scope) (cl : List (Str × Addr)) (pm ctv : Value) (c' ck l : Addr) (us : List Value) : Prop where
  fn : h.get? f = some (PySem.W.kla_obj "<lambda>" q params (.Subscript (.Name y p1) (.Name x p2) p3) scope cl pm c' ctv)
  code : ∃ (oc : Obj) (us : Array Value) (tk : Tok), h.get? c' = some oc ∧ oc.data = .fields us ∧ us[1]? = some (.str q tk)
  lim : h.NoLimit
  hck : cl.lookup y = some ck
  cell : h.IsCell ck (some (.ref l))
  lst : h.IsList l us.toArray
theorem LamAt.keeps {h h' : Heap} {f : Addr} {x y : Str} {q : Str} {params : Arguments} {p1 p2 p3 : Pos} {scope : Scope} {cl : List (Str × Addr)} {pm ctv : Value} {c' ck l : Addr} {us : List Value}
    (L : LamAt h f x y q params p1 p2 p3 scope cl pm ctv c' ck l us) (k : ∀ b o, h.get? b = some o → h'.get? b = some o) : LamAt h' f x y q params p1 p2 p3 scope cl pm ctv c' ck l us :=
  ⟨k _ _ L.fn, let ⟨oc, us, tk, a, b, c⟩ := L.code; ⟨oc, us, tk, k _ _ a, b, c⟩, L.lim.keeps k, L.hck, L.cell.keeps k, L.lst.at fun o e => k _ _ e⟩
theorem min_lam {f a l c' ck : Addr} {q x y : Str} {params : Arguments} {p1 p2 p3 : Pos} {scope : Scope} {cl : List (Str × Addr)} {pm ctv : Value} {cs us : List Value} {ns : Nat → Int} {kf : Nat → Int} {Q : Value → Shared → Prop}
    (hh : A.handled = none) (S : LSc scope x y) (hd : A.depth < recursionLimit) (L : LamAt s.heap f x y q params p1 p2 p3 scope cl pm ctv c' ck l us)
    (hbind : ∀ v : Value, bindArgs (PySem.W.kla_fn "<lambda>" q params (.Subscript (.Name y p1) (.Name x p2) p3) scope cl pm (.ref c') ctv) ⟨[v], []⟩ = pure [(x, v)])
    (hdx : (x == ("__debug__" : Str)) = false) (hdy : (y == ("__debug__" : Str)) = false) (hcy : (y == ("__classdict__" : Str)) = false)
    (ht : s.heap.IsTuple a cs.toArray) (hc : ∀ i, i < cs.length → ∃ t, cs[i]? = some (.int (ns i) t)) (hne : 0 < cs.length)
    (hk : ∀ i, i < cs.length → 0 ≤ ns i ∧ ns i < 2 ^ 63 ∧ ∃ t, us[(ns i).toNat]? = some (.int (kf i) t))
    (h : ∀ v h' tk, cs[argBest (fun i j => decide (kf i < kf j)) (cs.length - 1)]? = some v → (∀ b o, s.heap.get? b = some o → h'.get? b = some o) → Q v { s with heap := h', toks := tk }) :
    wpAny (model prog w) A (call (.builtin "min") [.ref a] [(Str.ofString "key", .ref f)]) Q E s := by
  have hd1 : A.in1.depth < recursionLimit := hd
  refine call_min_walkK (PySem.W.iter_tupleW (A := A.in1) hh ht fun s₂ e2 W st hfp hfr kp2 => ?_)
  have sz2 : s.heap.objs.size < s₂.heap.objs.size := hfp _ List.mem_cons_self
  have old : ∀ {s' : Shared}, Moved [s₂.heap.objs.size, s.heap.objs.size] (fun a b => b = a) s₂ s' → ∀ b o, s.heap.get? b = some o → s'.heap.get? b = some o := fun {s'} m b o e => by
    have lt := Heap.lt_size e
    refine m.heap b o (fun hm => ?_) (kp2 b o e)
    rcases List.mem_cons.mp hm with z | hm
    · rw [z] at lt
      exact Nat.lt_irrefl _ (Nat.lt_trans lt sz2)
    · rw [List.mem_singleton.mp hm] at lt
      exact Nat.lt_irrefl _ lt
  have szc : cs.toArray.size = cs.length := by simp
  refine ⟨s.heap.objs.size, [s.heap.objs.size, a], [s.heap.objs.size], (fun a b => b = a), cs.toArray.size, _, _, fun s' => Moved [s₂.heap.objs.size, s.heap.objs.size] (fun a b => b = a) s₂ s', fun i k _ => ∃ t, k = .int (kf i) t, fun i j => decide (kf i < kf j), rfl, W, st, hfp, by rw [szc]; exact hne, ⟨?_, ?_, ?_, ?_⟩, Moved.refl fun _ => rfl, ?_⟩
  · exact fun s1 s' J m => J.trans (fun _ _ _ h1 h2 => h2.trans h1) m
  · exact fun i k s1 s' v _ => v
  · intro i v s1 o Q' E' hi hP J stI hS cont
    rw [szc] at hi
    obtain ⟨t, ec⟩ := hc i hi
    have ev : v = .int (ns i) t := by
      have hP' : cs[i]? = some v := by simpa using hP
      rw [ec] at hP'
      exact (Option.some.inj hP').symm
    subst ev
    obtain ⟨h0, h1, tk, eu⟩ := hk i hi
    have L1 := L.keeps (old J)
    refine lam_ix S hd1 L1.fn hbind L1.code L1.lim L1.hck L1.cell L1.lst h0 h1 eu hdx hdy hcy fun h' tk' hle kp => ?_
    exact cont _ _ (J.then_heap hle fun b o _ e => kp b o e) (W.frame _ s1 h' tk' stI hle fun b _ o e => kp b o e) (kp _ _ hS) ⟨_, rfl⟩ fun j k' z => z
  · intro i j ki kj s1 Q' E' J vi vj q
    exact CmpOf.ints_lt (prog := prog) (w := w) (A := A.in1) (P := fun i v => ∃ t, v = .int (kf i) t) kf (fun i v h => h) i j ki kj s1 Q' E' vi vj q
  · intro v s' hP J
    rw [szc] at hP
    have hP' : cs[argBest (fun i j => decide (kf i < kf j)) (cs.length - 1)]? = some v := by simpa using hP
    have e : s' = { s with heap := s'.heap, toks := s'.toks } := by
      obtain ⟨hp, g, d, tk, os⟩ := s'
      subst e2
      have h1 : g = s.gens := J.gens
      have h2 : d = s.drawn := J.drawn
      have h3 : os = s.os := J.os
      subst h1 h2 h3
      rfl
    rw [e]
    exact h v s'.heap s'.toks hP' (old J)
end
/-- the first of the least -/
def FirstLeast (kf : Nat → Int) (n j : Nat) : Prop := j < n ∧ (∀ i, i < n → kf j ≤ kf i) ∧ ∀ i, i < j → kf j < kf i
theorem best_is (kf : Nat → Int) : ∀ n, FirstLeast kf (n + 1) (argBest (fun i j => decide (kf i < kf j)) n)
  | 0 => ⟨Nat.zero_lt_one, fun i h => by rw [Nat.lt_one_iff.mp h]; exact Int.le_refl _, fun i h => nomatch h⟩
  | n + 1 => by
    obtain ⟨a, b, c⟩ := best_is kf n
    show FirstLeast kf (n + 2) (if decide (kf (n + 1) < kf (argBest (fun i j => decide (kf i < kf j)) n)) = true then n + 1 else argBest (fun i j => decide (kf i < kf j)) n)
    by_cases h : kf (n + 1) < kf (argBest (fun i j => decide (kf i < kf j)) n)
    · rw [if_pos (decide_eq_true h)]
      refine ⟨by omega, fun i hi => ?_, fun i hi => ?_⟩
      · by_cases e : i = n + 1
        · rw [e]
          exact Int.le_refl _
        · have := b i (by omega)
          omega
      · have := b i (by omega)
        omega
    · rw [if_neg (fun z => h (of_decide_eq_true z))]
      refine ⟨by omega, fun i hi => ?_, c⟩
      by_cases e : i = n + 1
      · rw [e]
        omega
      · exact b i (by omega)
theorem first_one {kf : Nat → Int} {n i j : Nat} (a : FirstLeast kf n i) (b : FirstLeast kf n j) : i = j := by
  rcases Nat.lt_trichotomy i j with h | h | h
  · have h1 := b.2.2 i h
    have h2 := a.2.1 j b.1
    omega
  · exact h
  · have h1 := a.2.2 j h
    have h2 := b.2.1 i a.1
    omega
/-- the item of ns whose key in ks is the least, the first such one -/
def LeastAt (ks ns : List Int) (m : Int) : Prop := ∃ j, FirstLeast (fun i => ks.getD (ns.getD i 0).toNat 0) ns.length j ∧ m = ns.getD j 0
theorem _root_.LamX.ExtN.rd {H H' : Hp} (e : ExtN H H') {a : Addr} {u : HO} (n : ∀ ps, u ≠ .tbl ps) (h : Rd H a u) : Rd H' a u := by
  rcases h with h | ⟨o, h⟩
  · exact .inl (e _ _ h n)
  · exact .inr ⟨o, e _ _ h fun ps z => nomatch z⟩
theorem _root_.LamX.ExtN.sqL {K : PySem.W.Frag} {H H' : Hp} (e : ExtN H H') {a : Addr} {xs : List V} (h : SqL K H a xs) : SqL K H' a xs := h.elim (fun h => .inl (e.rd (fun ps z => nomatch z) h)) .inr
theorem _root_.LamX.ExtN.sqT {K : PySem.W.Frag} {H H' : Hp} (e : ExtN H H') {a : Addr} {xs : List V} (h : SqT K H a xs) : SqT K H' a xs := h.elim (fun h => .inl (e.rd (fun ps z => nomatch z) h)) .inr
section
variable {X : Cx}
def tMinLam (K : PySem.W.Frag) (T : List (Addr × Str)) (j : Nat) (te : TE) : TE := fun σ H Q => te σ H fun v H1 => ∃ (a l : Addr) (ns ks : List Int), v = .ref a ∧ SqT K H1 a (ns.map V.int) ∧ σ[j]? = some (some (.ref l)) ∧ SqL K H1 l (ks.map V.int) ∧ 0 < ns.length ∧ (∀ n ∈ ns, 0 ≤ n ∧ n < ks.length) ∧
  Tabs T H1 ∧ ∀ (m : Int) (H2 : Hp), ExtN H1 H2 → Tabs T H2 → LeastAt ks ns m → Q (.int m) H2
/-- min(e, key=lambda x: y[x]), y a name of the def that it shares with the lambda -/
theorem pe_minlam {T : List (Addr × Str)} {c P : Addr} {p p1 p2 p3 lpos kpos pos : Pos} {e : Expr} {te : TE} {x y : Str} {j : Nat} {params : Arguments} {scope : Scope}
    (hg : Gl X "min") (hm : X.mg "min" = none) (he : PE X e te) (hd : X.A.depth < recursionLimit) (hh : X.A.handled = none) (TB : TabB X.base X.mg c P) (hcode : X.env.code = .ref c) (hmT : (P, X.env.qual ++ "<lambda>") ∈ T)
    (hu : ∀ q ∈ T, q.1 = P → q.2 = X.env.qual ++ "<lambda>") (S : LSc scope x y) (hfy : X.env.scope.names.lookup y = some .cell) (hfr : ∀ z ∈ scope.names, z.2 = .free → z.1 = y) (hN : X.N[j]? = some y) (hdef : defaultsOf params X.env = ([], []))
    (hbind : ∀ (q : Str) (cl : List (Str × Addr)) (pm cv ctv v : Value), bindArgs (PySem.W.kla_fn "<lambda>" q params (.Subscript (.Name y p1) (.Name x p2) p3) scope cl pm cv ctv) ⟨[v], []⟩ = pure [(x, v)])
    (hs : starEach [e] X.env = (false, eval e X.env) :: starEach [] X.env := by rfl)
    (hdx : (x == ("__debug__" : Str)) = false := by decide) (hdy : (y == ("__debug__" : Str)) = false := by decide) (hcy : (y == ("__classdict__" : Str)) = false := by decide) :
    PE X (.Call (.Name "min" p) [e] [⟨some "key", .Lambda params (.Subscript (.Name y p1) (.Name x p2) p3) scope lpos, kpos⟩] pos) (tMinLam X.K T j te) := by
  refine ⟨fun pins s σ H Q I h => ?_⟩
  have hfree : ∀ z ∈ scope.names, z.2 = .free → ∃ c, X.env.cells.lookup z.1 = some c := fun z hz e => I.ok.has _ (.inl (by rw [hfr z hz e]; exact hfy))
  refine wpAny_Call_Name_kw (ld_blt I hg hm (u := .builtin "min") (by decide +kernel) ?_)
  refine PyProof.Rows.callWith_kw ?_ (by rw [hs]; rfl) (by rw [hs]; rfl) (by rfl) (by rfl)
  rw [hs]
  show wpAny _ _ (spliced ((false, eval e X.env) :: backTo pos (starEach [] X.env))) _ _ s
  refine Calls.spliced_cons (thn (he.run pins s σ H _ I h) fun u s1 ⟨v, H1, I1, r1, a, l, ns, ks, ev, ht, hσ, hl, hne, hin, hT, q⟩ => Calls.spliced_nil ?_)
  subst ev
  obtain rfl : u = Value.ref a := r1
  show wpAny _ _ (evalAll ((do let v ← eval (.Lambda params (.Subscript (.Name y p1) (.Name x p2) p3) scope lpos) X.env; standAt pos; pure v) :: [])) _ _ s1
  refine wpAny_evalAll_cons (wpAny_bind (lam_make2 I1 TB hcode hmT hu hT hdef hfree fun f c' pm ctv H2 s2 I2 eN T2 hf hfn hff hco => wpAny_bind (wpAny_standAt (wpAny_pure (wpAny_evalAll_nil ?_)))))
  show wpAny _ _ (call (.builtin "min") [.ref a] [(Str.ofString "key", .ref f)]) _ _ s2
  obtain ⟨cs, rc, tc, _⟩ := I2.tuple (eN.sqT ht)
  obtain ⟨us, ru, pl, hz2⟩ := I2.list (eN.sqL hl)
  obtain ⟨m, _, look⟩ := I2.loc
  obtain ⟨u0, r0, lk⟩ := look j y _ hN hσ (.inr (.inl hfy))
  obtain rfl : u0 = Value.ref l := r0
  have cellAt : ∃ ck, X.env.cells.lookup y = some ck ∧ s2.heap.IsCell ck (some (.ref l)) := by
    rcases lk with ⟨k, _⟩ | ⟨_, ck, e1, e2⟩
    · rw [show X.env.kindOf y = some .cell from hfy] at k
      cases k
    · exact ⟨ck, e1, e2⟩
  obtain ⟨ck, eck, hcell⟩ := cellAt
  obtain ⟨⟨oc, vs, tk, o1, o2, o3⟩, _, _⟩ := I2.hok c' _ hco
  have lc : cs.length = ns.length := by rw [← rc.length, List.length_map]
  have lu : us.length = ks.length := by rw [← ru.length, List.length_map]
  have nsAt : ∀ i, i < ns.length → ∃ t, cs[i]? = some (.int (ns.getD i 0) t) := fun i hi => by
    obtain ⟨z, ez, rz⟩ := rc.get (i := i) (x := V.int (ns.getD i 0)) (by rw [List.getElem?_map, List.getD_eq_getElem?_getD, List.getElem?_eq_getElem hi]; rfl)
    obtain ⟨t, rfl⟩ := rz
    exact ⟨t, ez⟩
  refine min_lam (ns := fun i => ns.getD i 0) (kf := fun i => ks.getD (ns.getD i 0).toNat 0) hh S hd ⟨hf, ⟨oc, vs, tk, o1, o2, o3⟩, I2.nolimit, NdefX.clo_has hfree (PySem.mem_of_lookup S.fy) eck, hcell, pl.isList⟩ (fun v => hbind _ _ _ _ _ v) hdx hdy hcy tc (fun i hi => nsAt i (by omega)) (by omega)
    (fun i hi => ?_) fun v h' tk2 hv kp => ?_
  · have hi' : i < ns.length := by omega
    have hmem : ns.getD i 0 ∈ ns := by rw [List.getD_eq_getElem?_getD, List.getElem?_eq_getElem hi']; exact List.getElem_mem hi'
    obtain ⟨b0, b1⟩ := hin _ hmem
    have hs63 := line63
    rw [List.length_map] at hz2
    have hk' : (ns.getD i 0).toNat < ks.length := by omega
    obtain ⟨z, ez, rz⟩ := ru.get (i := (ns.getD i 0).toNat) (x := V.int (ks.getD (ns.getD i 0).toNat 0)) (by rw [List.getElem?_map, List.getD_eq_getElem?_getD (l := ks), List.getElem?_eq_getElem hk']; rfl)
    obtain ⟨t, rfl⟩ := rz
    exact ⟨b0, by omega, t, ez⟩
  · obtain ⟨n, en⟩ : ∃ n, ns.length = n + 1 := ⟨ns.length - 1, by omega⟩
    have fl := best_is (fun i => ks.getD (ns.getD i 0).toNat 0) n
    rw [← en] at fl
    rw [lc, show ns.length - 1 = n by omega] at hv
    obtain ⟨t, et⟩ := nsAt _ fl.1
    rw [et] at hv
    cases hv
    exact ⟨.int _, H2, I2.kept kp, ⟨t, rfl⟩, q _ H2 eN T2 ⟨_, fl, rfl⟩⟩
end
end Cl

set_option Elab.async false
set_option linter.all false
set_option maxRecDepth 100000
set_option maxHeartbeats 2000000
/-! own rule: list(o), o an instance with an __iter__ over its tuple and a __len__ -/
namespace Tw
open PySem PySem.Spec PyProof.Rows L2
def rListO (K : PySem.W.Frag) (C : Addr) (fld : Str) (sp : Sp) (E : XK) : List V → Hp → VK → Prop := fun xs H Q => ∃ (a dx : Addr) (fs : List (Str × V)) (t : Addr) (zs : List V), xs = [.ref a] ∧ H a = some (.ins C dx fs) ∧ fs.lookup fld = some (.ref t) ∧ SqT K H t zs ∧ zs.length ≤ 900 ∧
  sp [.ref a] H (fun v H' => ∃ n : Nat, v = .int n ∧ n < 1000 ∧ H' = H) E ∧ ∀ q, H q = none → Q (.ref q) (upd H q (.lst zs))
theorem ty_ne {a b : String} (h : Value.type a = Value.type b) (n : decide (a = b) = false) : False := by
  injection h with h
  exact of_decide_eq_false n h
theorem if_yes {α : Type} {M : Model} {A : Around} {E : Value → Shared → Prop} {s : Shared} {c : Bool} {a b : Sem α} {Q : α → Shared → Prop} (hc : c = true) (h : wpAny M A a Q E s) : wpAny M A (if c = true then a else b) Q E s := by
  rw [hc, if_pos rfl]
  exact h
section
variable {X : Cx} {k : Nat} {f : Addr} {fd : FuncData} {ps : List Str} {sp : Sp} {A1 : Around} {pins : List (Addr × Obj)} {σ : L2.St} {H : Hp} {s : Shared} {Q : VK}
/-- a def that raises nothing, called within a built-in -/
theorem run_sub0 {us : List Value} {vs : List V} {R : Value → Shared → Prop} (F : FnOk X.prog X.w X.K X.mg X.base CX0 k f fd ps sp) (sb : Sub X k A1) (hb : L2.Binds X.K fd ps []) (I : Inv X pins σ H s) (r : Vals vs us) (h : sp vs H Q E0) :
    wpAny (model X.prog X.w) A1 (call (.ref f) us) (EP X pins σ Q) R s := by
  have hl : us.length = ps.length := by rw [← r.length]; exact F.len _ _ _ _ h
  have hb1 : BindsTo s fd ⟨us, []⟩ (ps.zip us) := by
    have z := hb s us I.kIn (by rw [List.append_nil]; exact hl)
    rw [List.append_nil] at z
    exact z
  refine wpAny_call (codeAny_mono (F.run A1 X.stack s H ⟨us, []⟩ us vs Q E0 sb.room (Sub.env0 sb I) hb1 r h) fun z s' hq => ?_)
  match z, hq with
  | .error e, hq => exact False.elim hq
  | .ok (.ret u), hq => exact I.after hq
  | .ok .next, hq => exact False.elim hq
  | .ok .brk, hq => exact False.elim hq
  | .ok .cont, hq => exact False.elim hq
end
section
variable {X : Cx} {kI k : Nat} {fi fl C : Addr} {fdI fdL : FuncData} {psL : List Str} {spL : Sp} {fld : Str}
theorem call_listO (hdI : Dn X.K C "__iter__" fi) (FI : FnIt X.prog X.w X.K X.mg X.base k fi fdI ["self"] (spIter X.K C fld)) (bI : L2.Binds X.K fdI ["self"] [])
    (hdL : Dn X.K C "__len__" fl) (FL : FnOk X.prog X.w X.K X.mg X.base CX0 k fl fdL psL spL) (bL : L2.Binds X.K fdL psL []) (hr : Room (k + 3) X.A) : CallR X (.type "list") (rListO X.K C fld spL E0) := by
  intro pins s σ H xs us Q I rv h
  obtain ⟨a, dx, fs, t, zs, rfl, ha, hf, ht, hz, hlen, q⟩ := h
  obtain ⟨u, rfl, ru⟩ := rv.one
  cases ru
  have sb1 : Sub X (k + 1) X.A.in1.in1 := Sub.in1 (Sub.in1 (⟨hr, rfl⟩ : Sub X (k + 3) X.A))
  have sb : Sub X k X.A.in1.in1 := sb1.mono (Nat.le_succ k)
  refine callType_codes (Q₁ := fun obj s₁ => obj = .ref s.heap.objs.size ∧ s₁ = { s with heap := s.heap.push { cls := .type "list", data := .seq #[] } }) PySem.F.called_list (PySem.F.typeCall_list_1 _) PySem.F.entry_list_init
    (code_list_new _ ⟨rfl, rfl⟩) fun obj s₁ h₁ => ?_
  obtain ⟨rfl, rfl⟩ := h₁
  have hS : (s.heap.push { cls := .type "list", data := .seq #[] }).get? s.heap.objs.size = some { cls := .type "list", data := .seq #[] } := Heap.get?_push_size _ rfl
  refine ⟨⟨_, hS, rfl⟩, PySem.F.args_list_init_2 _ _, ?_⟩
  have nS : H s.heap.objs.size = none := I.hok.fresh (Nat.le_refl _)
  have fS : FpOk X pins H s.heap.objs.size := I.fpOk (Nat.le_refl _) nS
  have I1 : Inv X pins σ H { s with heap := s.heap.push { cls := .type "list", data := .seq #[] } } := I.kept (t' := s.toks) fun b u e => Heap.get?_push_of_some _ e
  show wpAny _ _ (do let old ← Builtin.List.listItems (.ref s.heap.objs.size); Builtin.List.listUpdate (.ref s.heap.objs.size) (fun _ => #[]); letGo old.toList.reverse; Builtin.List.listExtendWith (.ref s.heap.objs.size) (.ref a) .none) _ _ _
  refine wpAny_bind ?_
  unfold Builtin.List.listItems
  refine wpAny_bind (wpAny_seqItems hS rfl (wpAny_pure ?_))
  show wpAny _ _ (updateSeq s.heap.objs.size (fun _ => #[]) >>= fun _ => letGo (#[] : Array Value).toList.reverse >>= fun _ => Builtin.List.listExtendWith (.ref s.heap.objs.size) (.ref a) .none) _ _ _
  refine wpAny_bind (wpAny_updateSeq hS rfl ?_)
  have hS2 := Heap.get?_update_self (h := s.heap.push { cls := .type "list", data := .seq #[] }) (f := Obj.mapSeq fun _ => #[]) hS rfl
  have I2 := I1.turnedL (h' := (s.heap.push { cls := .type "list", data := .seq #[] }).update s.heap.objs.size (Obj.mapSeq fun _ => #[])) (t' := s.toks) (ch := [s.heap.objs.size]) (fun b o hb e => (Heap.get?_update_other _ _ (fun z => hb (by simp [z]))).trans e) (fun b hb => by rw [List.mem_singleton.mp hb]; exact fS)
  refine wpAny_bind (wpAny_letGo ?_)
  generalize hSa : s.heap.objs.size = S at *
  generalize hh2 : (s.heap.push { cls := .type "list", data := .seq #[] }).update S (Obj.mapSeq fun _ => #[]) = h2 at *
  have szS : S < h2.objs.size := Heap.lt_size hS2
  obtain ⟨mA, O, rr, _, _, _⟩ := ins_get I2.hok ha
  obtain ⟨od, J, hl⟩ := O.look
  obtain ⟨m0, hF⟩ := I2.fr
  have hne : S ≠ a := fun z => by rw [← z] at ha; rw [nS] at ha; cases ha
  have h1 : Builtin.List.listSameRef (.ref S) (.ref a) = false := by simp [Builtin.List.listSameRef, hne]
  unfold Builtin.List.listExtendWith
  refine wpAny_bind (J.type.here ?_)
  have n2 : (Value.ref C == Value.type "list") = false := rfl
  have n3 : (Value.ref C == Value.type "tuple") = false := rfl
  simp only [h1, n2, n3, Bool.or_false, Bool.false_eq_true, if_false]
  have I2p := I2.pinned (fp := [S]) (fun b hb => by rw [List.mem_singleton.mp hb]; exact fS) (fun b hb => by rw [List.mem_singleton.mp hb]; exact ⟨_, hS2, fun v z => nomatch z⟩)
  refine wpAny_bind (PySem.W.owit_iter hF I2.ok.mod.kin J hdI.at_ hdI.fn (thn (run_iter FI sb bI I2p ha hf ht) fun r s3 ⟨it, er, hn, h0, I3⟩ => ?_))
  subst er
  have e2 : upd H it (ItT t it 0) it = some (ItT t it 0) := upd_same
  have g : s3.heap.get? it = some (itTup t 0) := (I3.hok it _ e2).1
  have hS3 := (I3.pin (S, _) (List.mem_append_right _ (List.mem_append_right _ (mem_pinsAt (List.mem_singleton.mpr rfl) hS2)))).1
  have hTy : s3.TypeIs (.ref it) "tuple_iterator" := ⟨_, g, rfl⟩
  have fIt := ItX.inv_fp I3 e2 (Nat.le_trans I2.sz hn)
  have I4 := ItX.inv_drop I3 e2
  rw [ItX.dropH_upd h0] at I4 fIt
  unfold PySem.W.OwitIt
  refine wpAny_specialOf (name := Str.ofString "__next__") hTy PySem.F.slot_tuple_iterator_next.lookup ?_
  have I5 := I4.pinned (fp := [it]) (fun b hb => by rw [List.mem_singleton.mp hb]; exact fIt) (fun b hb => by rw [List.mem_singleton.mp hb]; exact ⟨_, g, fun v z => nomatch z⟩)
  show wpAny _ X.A.in1.in1 (holding [.ref it] (Builtin.List.listLengthHint (.ref a)) >>= _) _ _ s3
  obtain ⟨mA5, O5, rr5, _, _, _⟩ := ins_get I5.hok ha
  obtain ⟨od5, J5, hl5⟩ := O5.look
  obtain ⟨m5, hF5⟩ := I5.fr
  refine wpAny_bind (wpAny_holding ?_)
  have lenOk : ∀ {R : Value → Shared → Prop}, wpAny (model X.prog X.w) X.A.in1.in1 (call (.builtin "len") [.ref a]) (fun r s' => ∃ (n : Nat) (tk : Tok), r = .int n tk ∧ n < 1000 ∧ Inv X (pins ++ pinsAt [S] h2 ++ pinsAt [it] s3.heap) σ H s') R s3 := by
    intro R
    refine PySem.W.len_K hF5 I5.ok.mod.kin J5 hdL.at_ hdL.fn (thn (run_sub0 FL (Sub.in1 (Sub.mono sb1 (Nat.le_refl _))) bL I5 (.cons (relR a) .nil) hlen) fun r s' ⟨z, H', I', rz, n, ez, hn, eH⟩ => ?_)
    subst ez
    rw [eH] at I'
    obtain ⟨tk, rfl⟩ := rz
    exact ⟨⟨by omega, by omega⟩, n, _, rfl, hn, I'.tok _⟩
  unfold Builtin.List.listLengthHint
  refine wpAny_bind (wpAny_bind (J5.type.here ((PySem.W.looks_findIn I5.kIn hdL.at_).here ?_)))
  refine PySem.W.KFB.if_not rfl ?_
  refine if_yes rfl ?_
  refine wpAny_bind (wpAny_rule ?_)
  refine wpAny_bind (wpAny_attempt (thn lenOk fun r s6 ⟨n, tk, er, hn6, I6⟩ => ?_))
  subst er
  refine wpAny_bind (wpAny_of_eq (a := some ((n : Nat) : Int)) (by rfl) ?_)
  refine PySem.W.KFB.if_not (by unfold Builtin.List.listTooLong; exact decide_eq_false (by rw [sizeLine_eq, Int.toNat_natCast]; omega)) ?_
  refine wpAny_pure ?_
  -- the loop
  have I7 : Inv X pins σ H s6 := I6.unpinned.unpinned
  have hS6 := (I6.pin (S, _) (List.mem_append_right _ (List.mem_append_left _ (List.mem_append_right _ (mem_pinsAt (List.mem_singleton.mpr rfl) hS2))))).1
  have g6 := (I6.pin (it, _) (List.mem_append_right _ (List.mem_append_right _ (mem_pinsAt (List.mem_singleton.mpr rfl) g)))).1
  have fIt2 : FpOk X pins H it := ⟨fIt.1, fIt.2.1, fIt.2.2.1, fIt.2.2.2.1, fIt.2.2.2.2.1, fun p hp => fIt.2.2.2.2.2 p ((List.mem_append.mp hp).elim (fun z => List.mem_append_left _ z) fun z => List.mem_append_right _ (List.mem_append_left _ z))⟩
  have Sne' : S ≠ it := fun z => by
    rw [z, g6] at hS6
    exact ty_ne (show Value.type "tuple_iterator" = Value.type "list" from congrArg Obj.cls (Option.some.inj hS6)) (by decide +kernel)
  have loop : ∀ (s7 : Shared) (c : Nat), Inv X pins σ H s7 → s7.heap.get? S = some { cls := .type "list", data := .seq #[] c } → s7.heap.get? it = some (itTup t 0) →
      codeAny (model X.prog X.w) X.A.in1 (.builtin "list.extend.loop" ⟨[.ref S, .ref it, .none], []⟩) (wants (fun r s₂ => r = .none ∧ EP X pins σ Q (.ref S) s₂) X.xe) s7 := by
    intro s7 c J7 hS7 g7
    obtain ⟨its, rz, pl, hz2⟩ := J7.tuple ht
    have tne : t ≠ it := fun z => by
      obtain ⟨o, e1, e2, _⟩ := pl
      rw [z, g7] at e1
      rw [← Option.some.inj e1] at e2
      exact ty_ne (show Value.type "tuple_iterator" = Value.type "tuple" from e2) (by decide +kernel)
    have Sne : S ≠ it := fun z => by
      rw [z, g7] at hS7
      exact ty_ne (show Value.type "tuple_iterator" = Value.type "list" from congrArg Obj.cls (Option.some.inj hS7)) (by decide +kernel)
    have St : S ≠ t := fun z => by
      obtain ⟨o, e1, e2, _⟩ := pl
      rw [← z, hS7] at e1
      rw [← Option.some.inj e1] at e2
      exact ty_ne (show Value.type "list" = Value.type "tuple" from e2) (by decide +kernel)
    have li : its.length = zs.length := rz.length.symm
    have W := (PySem.Walks.tuple (prog := X.prog) (w := X.w) (A := X.A.in1.in1) sb1.room.hd it t tne its.toArray).toS
    refine PySem.codeAny_extend_loopS (A := X.A.in1) W (by rw [List.size_toArray, sizeLine_eq]; omega) S (fun z => ?_) .none _ 0 s7 #[] c rfl (Nat.zero_le _) ⟨⟨_, g7, rfl, rfl⟩, pl⟩ hS7 (PySem.ItemsOf.nil _) fun s8 acc c8 m hS8 hit => ?_
    · rcases List.mem_cons.mp z with z | z
      · exact Sne z
      · exact St (List.mem_singleton.mp z)
    have eacc : acc = its.toArray := by
      refine Array.ext_getElem? fun j => ?_
      by_cases hj : j < acc.size
      · rw [Array.getElem?_eq_getElem hj]
        exact (hit.2 j _ (Array.getElem?_eq_getElem hj)).symm
      · rw [Array.getElem?_eq_none (by omega), Array.getElem?_eq_none (by rw [← hit.1]; omega)]
    subst eacc
    have J8 := J7.turnedL (h' := s8.heap) (t' := s8.toks) (ch := [S, it]) (fun b o hb e => m.heap b o hb e) (fun b hb => by
      rcases List.mem_cons.mp hb with z | z
      · rw [z]; exact fS
      · rw [List.mem_singleton.mp z]; exact fIt2)
    have J9 := J8.take (h' := s8.heap) (t' := s8.toks) (it := S) (o := .lst zs) (fun _ _ _ e => e) fS ⟨by rw [sizeLine_eq]; omega, its, c8, rz, hS8⟩
    have e8 : s8 = { s7 with heap := s8.heap, toks := s8.toks } := Moved.eq_with m
    rw [e8]
    exact ⟨rfl, .ref S, _, J9, rfl, q S nS⟩
  refine wpAny_ite_split (fun _ => ?_) (fun _ => wpAny_pure ⟨plainId_quiet PySem.F.plain_extend_loop _, loop s6 _ I7 hS6 g6⟩)
  refine wpAny_bind (wpAny_rule ?_)
  refine wpAny_bind ?_
  show wpAny _ _ (updateSeq S (·.push .none) >>= fun _ => updateSeq S (·.pop)) _ _ _
  refine wpAny_bind (wpAny_updateSeq hS6 rfl ?_)
  have e9 := Heap.get?_update_self (h := s6.heap) (f := Obj.mapSeq (·.push Value.none)) hS6 rfl
  refine wpAny_updateSeq e9 rfl ?_ (by show 1 ≤ sizeLine; rw [sizeLine_eq]; decide) (by show 0 ≤ sizeLine + 1; exact Nat.zero_le _)
  have e10 := Heap.get?_update_self (h := s6.heap.update S (Obj.mapSeq (·.push Value.none))) (f := Obj.mapSeq (·.pop)) e9 rfl
  have J := I7.turnedL (h' := (s6.heap.update S (Obj.mapSeq (·.push Value.none))).update S (Obj.mapSeq (·.pop))) (t' := s6.toks) (ch := [S]) (fun b o hb e => (Heap.get?_update_other _ _ (fun z => hb (by simp [z]))).trans ((Heap.get?_update_other _ _ (fun z => hb (by simp [z]))).trans e)) (fun b hb => by rw [List.mem_singleton.mp hb]; exact fS)
  refine wpAny_pure ⟨plainId_quiet PySem.F.plain_extend_loop _, loop _ _ J e10 ?_⟩
  exact (Heap.get?_update_other _ _ Sne').trans ((Heap.get?_update_other _ _ Sne').trans g6)
end
end Tw

set_option Elab.async false
set_option linter.all false
set_option maxRecDepth 100000
set_option maxHeartbeats 2000000
/-! own rule: sorted(t), t a tuple of whole numbers -/
namespace Tw
open PySem PySem.Spec PyProof.Rows L2
section
variable {prog : Program} {w : World} {A : Around} {E : Value → Shared → Prop} {s : Shared}
/-- a tuple's items, gathered: they are met as a list's are -/
theorem gather_tup {t : Addr} {vs : List Value} {Q : List Value → Shared → Prop} (ht : s.heap.IsTuple t vs.toArray)
    (h : Q vs { s with heap := (s.heap.push (seqObj "list" #[] 0)).update s.heap.objs.size (Obj.mapSeq (· ++ vs.toArray)) }) (hz : vs.length ≤ sizeLine) :
    wpAny (model prog w) A (collect (.ref t)) Q E s := by
  obtain ⟨o, ho, hc, n, hd⟩ := ht
  unfold collect
  refine wpAny_bind (wpAny_runValue (codeAny_builtin entry_proto_collect' ?_))
  show wpAny _ _ (do again (.builtin "list.__iadd__" ⟨[← newList [], .ref t], []⟩)) _ _ s
  refine wpAny_bind (wpAny_newList (wpAny_pure ⟨Code.quiet_builtin _ (by decide +kernel), codeAny_builtin entry_list_iadd' ?_⟩))
  show wpAny _ _ (Builtin.List.listExtendWith (.ref s.heap.objs.size) (.ref t) (.ref s.heap.objs.size)) _ _ { s with heap := s.heap.push (seqObj "list" #[] 0) }
  have ho2 : (s.heap.push (seqObj "list" #[] 0)).get? t = some o := Heap.get?_push_of_some _ ho
  unfold Builtin.List.listExtendWith
  refine wpAny_bind (wpAny_typeOf (T := "tuple") ⟨o, ho2, hc⟩ ?_)
  have tt : (Value.type "tuple" == Value.type "tuple") = true := by rfl
  rw [if_pos (by rw [tt]; simp)]
  refine wpAny_bind (listItems_at ho2 hd ?_)
  refine wpAny_bind (listItems_at (xs := #[]) (n := 0) (Heap.get?_push_size _ rfl) rfl ?_)
  rw [if_neg (by simp)]
  refine wpAny_bind (listUpdate_at (xs := #[]) (n := 0) (Heap.get?_push_size _ rfl) rfl ?_ (Nat.zero_le _) (by show (#[] ++ vs.toArray).size ≤ sizeLine + 1; simp only [Array.size_append, List.size_toArray, List.length_nil]; omega))
  refine wpAny_pure ?_
  refine wpAny_bind (wpAny_load (get?_update_seq (Heap.get?_push_size _ rfl) _) ?_)
  show wpAny _ _ (pure ((#[] : Array Value) ++ vs.toArray).toList) Q E _
  rw [show ((#[] : Array Value) ++ vs.toArray).toList = vs by simp]
  exact wpAny_pure h
end
def rSortedTu (K : PySem.W.Frag) : List V → Hp → VK → Prop := fun vs H Q => ∃ (a : Addr) (ns : List Int), vs = [V.ref a] ∧ SqT K H a (ns.map V.int) ∧
  ∀ (ns' : List Int) (p : Addr), ns'.Perm ns → ns'.Pairwise (· ≤ ·) → H p = none → Q (.ref p) (upd H p (.lst (ns'.map V.int)))
section
variable {X : Cx}
theorem cr_sortedTu : CallR X (.builtin "sorted") (rSortedTu X.K) := by
  intro pins s σ H vs us Q I r h
  obtain ⟨a, ns, rfl, hs, q⟩ := h
  obtain ⟨its, rv, hl, hz⟩ := I.tuple hs
  rw [Vals.ref1 r]
  have hi := rv.ints
  have hzi : its.length ≤ sizeLine := by rw [← rv.length]; exact hz
  refine Calls.call_function_entry kind_sorted plain_sorted entry_sorted (args_sorted1 _) ?_
  unfold Builtin.«sorted»
  refine wpAny_bind (m := checkCount "sorted" 1 1 _) (wpAny_pure ?_)
  refine wpAny_bind (gather_tup hl ?_ hzi)
  refine wpAny_bind (wpAny_newList ?_ hzi)
  have hsz : ((s.heap.push (seqObj "list" #[] 0)).update s.heap.objs.size (Obj.mapSeq (· ++ its.toArray))).objs.size = s.heap.objs.size + 1 := by
    rw [Heap.size_update, size_push']
  have hoL : (((s.heap.push (seqObj "list" #[] 0)).update s.heap.objs.size (Obj.mapSeq (· ++ its.toArray))).push (seqObj "list" its.toArray 0)).get? (s.heap.objs.size + 1) = some (seqObj "list" its.toArray 0) := by
    rw [← hsz]
    exact Heap.get?_push_size _ rfl
  show wpAny _ _ _ _ _ { s with heap := ((s.heap.push (seqObj "list" #[] 0)).update s.heap.objs.size (Obj.mapSeq (· ++ its.toArray))).push (seqObj "list" its.toArray 0) }
  rw [hsz]
  refine wpAny_bind (wpAny_holding (wpAny_call_entry slot_list_sort ⟨_, hoL, rfl⟩ entry_list_sort (SrtO.list_sort_ord SrtO.swo_int hoL hzi (fun h2 => SrtO.ints_sortable hi h2) fun out h1 h2 => ⟨_, rfl, ?_⟩) (args_list_sort _)))
  refine wpAny_pure ⟨_, rfl, ?_⟩
  obtain ⟨k1, k2, k3⟩ := SrtO.ints_out hi h1 h2
  obtain ⟨ep, he'⟩ := PyProof.Rows.sortedAll_at s.heap its out.toArray
  have hlen : ((out.map SrtO.iv).map V.int).length ≤ sizeLine := by
    rw [List.length_map, k2.length_eq]
    rw [List.length_map] at hz
    exact hz
  exact ⟨.ref _, upd H (s.heap.objs.size + 1) (.lst ((out.map SrtO.iv).map V.int)), I.laid (t' := s.toks) (fun _ _ => PyProof.Rows.sortedAll_old) (Nat.le_succ _) ⟨hlen, out, ep, vals_of_ints k1, he'⟩, rfl, q _ _ k2 k3 (I.hok.fresh (Nat.le_succ _))⟩
end
end Tw

set_option Elab.async false
set_option linter.all false
set_option maxRecDepth 100000
set_option maxHeartbeats 1000000
/-! != of two tuples of two things, equal ones in turn -/
namespace Cq
open PySem PySem.SeqAt
open AutoSeq1 (wpAny_loadPart')
open MeetsSeq MeetsSeq2 MeetsSeq3 SeqRoads2
theorem pairs_ne {prog : Program} {w : World} {A : Around} {R : Result → Shared → Prop} {p q : Addr} {a b c e : Value} {k k2 : Nat} {u u2 : Option Addr} {z z2 : Array (Option Value)} {s : Shared}
    (hp : s.heap.get? p = some { cls := .type "tuple", dict := u, data := .seq #[a, b] k, slots := z }) (hq : s.heap.get? q = some { cls := .type "tuple", dict := u2, data := .seq #[c, e] k2, slots := z2 })
    (h : wpAny (model prog w) A.in1 (eqBool a c) (fun r s1 => r = true ∧ wpAny (model prog w) A.in1 (eqBool b e) (fun r s2 => r = true ∧ R (.ok (.ret (.bool false))) s2) (fun x s2 => R (.error x) s2) s1) (fun x s1 => R (.error x) s1) s) :
    wpAny (model prog w) A.in1 (Builtin.«tuple.__ne__» ⟨[.ref p, .ref q], []⟩) (GQ.FinOf prog w A R) (fun x s1 => R (.error x) s1) s := by
  have sub2 := AutoSeq1.sub_tuple_tuple
  obtain ⟨hh, gg, dd, tk, os⟩ := s
  wp_walk using wpAny_loadPart' hp, wpAny_loadPart' hq, wpAny_forIn_list _ (fun rest t s1 => t.1 = none ∧ ((rest = [(a, c), (b, e)] ∧ wpAny (model prog w) A.in1 (eqBool a c) (fun r s1 => r = true ∧ wpAny (model prog w) A.in1 (eqBool b e) (fun r s2 => r = true ∧ R (.ok (.ret (.bool false))) s2) (fun x s2 => R (.error x) s2) s1) (fun x s1 => R (.error x) s1) s1) ∨
    (rest = [(b, e)] ∧ wpAny (model prog w) A.in1 (eqBool b e) (fun r s2 => r = true ∧ R (.ok (.ret (.bool false))) s2) (fun x s2 => R (.error x) s2) s1) ∨ (rest = [] ∧ R (.ok (.ret (.bool false))) s1))) _
  case turn =>
    rintro ⟨y, x⟩ rest t s1 ⟨ht, ⟨e1, h1⟩ | ⟨e1, h1⟩ | ⟨e1, _⟩⟩
    · injection e1 with e1 e2
      injection e1 with e3 e4
      subst e3 e4 e2
      refine wpAny_bind (wpAny_mono h1 (fun r s2 g => ?_) fun _ _ g => g)
      obtain ⟨rfl, g⟩ := g
      wp_walk
      exact ⟨rfl, .inr (.inl ⟨rfl, g⟩)⟩
    · injection e1 with e1 e2
      injection e1 with e3 e4
      subst e3 e4 e2
      refine wpAny_bind (wpAny_mono h1 (fun r s2 g => ?_) fun _ _ g => g)
      obtain ⟨rfl, g⟩ := g
      wp_walk
      exact ⟨rfl, .inr (.inr ⟨rfl, g⟩)⟩
    · cases e1
  case fin =>
    rintro ⟨t1, t2⟩ s1 ⟨ht, ⟨e1, _⟩ | ⟨e1, _⟩ | ⟨_, h1⟩⟩
    · cases e1
    · cases e1
    · simp only at ht
      subst ht
      wp_walk
      simpa [Builtin.Tuple.tupleCompareSizes] using h1
  case h => exact ⟨rfl, .inl ⟨rfl, h⟩⟩
end Cq
namespace L2
open PySem PySem.Spec PyProof.Rows
theorem vals_two {a b : V} {l : List Value} (r : Vals [a, b] l) : ∃ x y, l = [x, y] ∧ RelV a x ∧ RelV b y := by
  cases r with
  | cons ra r =>
    cases r with
    | cons rb r =>
      cases r
      exact ⟨_, _, rfl, ra, rb⟩
def DPair (K : PySem.W.Frag) (D1 D2 : Eqv) : Eqv := fun x y H => ∃ (p q : Addr) (a b c e : V), x = .ref p ∧ y = .ref q ∧ SqT K H p [a, b] ∧ SqT K H q [c, e] ∧ D1 a c H ∧ D2 b e H
def rNeP (D : Eqv) : R2 := fun x y H Q => D x y H ∧ ∀ H', Ext H H' → Q (.bl false) H'
theorem op_neP {X : Cx} {n : Nat} {D1 D2 : Eqv} (g1 : EqG X n D1) (g2 : EqG X n D2) (m2 : Mon D2) (hr : Room (n + 1) X.A) : OpR X (compareOp .NotEq) (rNeP (DPair X.K D1 D2)) := by
  intro pins s σ H x y v u Q I rx ry ⟨⟨p, q, a, b, c, e, ex, ey, hp, hq, d1, d2⟩, k⟩
  subst ex ey
  cases rx
  cases ry
  have sb : Sub X (n + 1) X.A := ⟨hr, rfl⟩
  obtain ⟨its, r, e1, _⟩ := I.tuple hp
  obtain ⟨its2, r2, e2, _⟩ := I.tuple hq
  obtain ⟨va, vb, ei, ra, rb⟩ := vals_two r
  obtain ⟨vc, ve, ei2, rc, re⟩ := vals_two r2
  subst ei ei2
  obtain ⟨⟨cl, u1, da, z1⟩, o1, c1, n1, w1⟩ := id e1
  obtain ⟨⟨cl2, u2, da2, z2⟩, o2, c2, n2, w2⟩ := id e2
  dsimp only at c1 w1 c2 w2
  subst c1 w1 c2 w2
  show wpAny (model X.prog X.w) X.A (richCompare .NotEq (.ref p) (.ref q)) (EP X pins σ Q) X.xe s
  refine wpAny_richCompare_same_room (op := .NotEq) ⟨_, o1, rfl⟩ ⟨_, o2, rfl⟩ F.slot_tuple_ne (GQ.call_here F.slot_tuple_ne ⟨_, o1, rfl⟩ F.entry_tuple_ne (F.args_tuple_ne_2 _ _) ?_) hr.units0
  refine Cq.pairs_ne (R := wants (fun v s' => v ≠ .notImplemented ∧ EP X pins σ Q v s') X.xe) o1 o2 ?_
  refine wpAny_mono (g1 X.A.in1 pins s σ H _ _ va vc sb.in1 I ra rc d1) (fun t s1 ⟨ht, H1, I1, x1⟩ => ⟨ht, ?_⟩) fun _ _ g => g
  refine wpAny_mono (g2 X.A.in1 pins s1 σ H1 _ _ vb ve sb.in1 I1 rb re (m2 _ _ _ _ x1 d2)) (fun t s2 ⟨ht, H2, I2, x2⟩ => ⟨ht, ?_⟩) fun _ _ g => g
  exact ⟨(fun g => nomatch g), .bl false, H2, I2, rfl, k H2 (x1.trans x2)⟩
end L2


set_option Elab.async false
set_option linter.all false
set_option maxRecDepth 100000
set_option maxHeartbeats 4000000
/-! set(xs), xs a list of ints, as a value -/
namespace L2
open PySem PySem.Spec PyProof.Rows
section
variable {P : Program} {w : World} {A : Around} {E : Value → Shared → Prop}
/-- the set that is there at first -/
abbrev eS (w : World) : Obj := { cls := .type "set", dict := none, data := .set #[] 0 (.fresh 0 0 (!w.params.followText "set-order")) }
theorem init_over {z : Shared} {D l : Addr} {items : Array Value} {ns : List Int} {R : Result → Shared → Prop} (hh : A.handled = none) (hD : z.heap.get? D = some (eS w)) (hl : z.heap.IsList l items) (hit : IntsAre items.toList ns) (hb : ns.length + 1 < scanBound) (hne : l ≠ D)
    (q : ∀ (h' : Heap) (tk c : Nat), SetR w h' D (fun j => decide (j ∈ ns)) c → c ≤ ns.length → (∀ b o, b ≠ D → z.heap.get? b = some o → h'.get? b = some o) → R (.ok (.ret .none)) { z with heap := h', toks := tk }) :
    codeAny (model P w) A (.call (.builtin "set.__init__") ⟨[.ref D, .ref l], []⟩) R z := by
  have hn : items.size = ns.length := by
    have e := IntsAre.length hit
    rw [Array.length_toList] at e
    exact e
  have hT : Shared.TypeIs z (.ref D) "set" := ⟨_, hD, rfl⟩
  have lD : D < z.heap.objs.size := Heap.lt_size hD
  obtain ⟨⟨oc, od, oa, os⟩, hol, hcl, nl, hdl⟩ := id hl
  have ll : l < z.heap.objs.size := Heap.lt_size hol
  dsimp only at hcl hdl
  subst hcl hdl
  have no1 := F.sub_list_set
  have no2 := F.sub_list_frozenset
  have no3 : (Value.type "list" == Value.type "dict") = false := by decide
  refine codeAny_call_builtin F.called_set.init.plain F.entry_set_init (check_set_init_1 hT ?_)
  unfold Builtin.«set.__init__» noKeywords Builtin.Frozenset.updateFrom
  generalize hPI : pyIter = PI
  wp_walk
  subst hPI
  refine wpAny_pyIter_list hl ?_
  refine wpAny_bind (wpAny_runValue ?_)
  have free3 : A.in1.in1.handled = none := by simp [hh]
  have apart : l ≠ z.heap.objs.size := Nat.ne_of_lt ll
  have offS : D ∉ [z.heap.objs.size, l] := fun m => by
    rcases List.mem_cons.mp m with y | y
    · exact absurd y (Nat.ne_of_lt lD)
    · exact hne (List.mem_singleton.mp y).symm
  have each : ∀ (i : Nat) (v : Value), items[i]? = some v → ∃ k t, ns[i]? = some k ∧ v = .int k t := fun i v e => by
    have hi : i < ns.length := hn ▸ (Array.getElem?_eq_some_iff.mp e).1
    obtain ⟨t, e2⟩ := IntsAre.int_at hit i v (by rw [Array.getElem?_toList]; exact e)
    exact ⟨ns[i], t, List.getElem?_eq_getElem hi, by rw [e2, List.getD_eq_getElem?_getD, List.getElem?_eq_getElem hi]; rfl⟩
  refine set_update_ints ((Walks.list free3 _ l apart items).toS) D offS ns hn hb each (items.size - 0) 0 _ (by omega) (Nat.zero_le _) ?_ ⟨0, Nat.le_refl 0, ?_⟩ ?_
  · exact ⟨⟨_, Heap.get?_push_size _ rfl, rfl, rfl⟩, hl.push _⟩
  · exact setR_new_at (Heap.get?_push_of_some _ hD)
  rintro ⟨h', gens', drawn', tk', os'⟩ c moved hc new
  obtain rfl : gens' = z.gens := moved.gens
  obtain rfl : drawn' = z.drawn := moved.drawn
  obtain rfl : os' = z.os := moved.os
  show wpAny _ _ _ _ _ _
  refine wpAny_pure ?_
  show wpAny _ _ (ret Value.none) _ _ _
  refine wpAny_pure (q h' tk' c new (by omega) fun b o hbD e => ?_)
  have lb : b < z.heap.objs.size := Heap.lt_size e
  refine moved.heap b o (fun m => ?_) (Heap.get?_push_of_some _ e)
  rcases List.mem_cons.mp m with y | y
  · exact hbD y
  · exact absurd (List.mem_singleton.mp y) (Nat.ne_of_lt lb)
theorem set_over {z : Shared} {l : Addr} {items : Array Value} {ns : List Int} {Q : Value → Shared → Prop} (hh : A.handled = none) (hl : z.heap.IsList l items) (hit : IntsAre items.toList ns) (hb : ns.length + 1 < scanBound)
    (q : ∀ (h' : Heap) (tk c : Nat), SetR w h' z.heap.objs.size (fun j => decide (j ∈ ns)) c → c ≤ ns.length → (∀ b o, z.heap.get? b = some o → h'.get? b = some o) → Q (.ref z.heap.objs.size) { z with heap := h', toks := tk }) :
    wpAny (model P w) A (call (.type "set") [.ref l]) Q E z := by
  obtain ⟨c0, t0, mro0⟩ := F.called_set.mro
  have m1 := F.called_set.made
  have m2 := F.called_set.sub
  have m3 := F.called_set.notType
  have m4 := F.called_set.canCreate
  have m5 := F.typeCall_set_1 (.ref l)
  have ll : l < z.heap.objs.size := by
    obtain ⟨o, ho, _⟩ := id hl
    exact Heap.lt_size ho
  refine wpAny_call (codeAny_of_tree ?_)
  show wpAny _ _ (callAny (.type "set") _) _ _ _
  refine wpAny_pure ⟨Code.quiet_builtin _ (by decide +kernel), codeAny_builtin F.entry_type_call ?_⟩
  rw [Around.under_plain (weight_type_call_type "set" [.ref l] []) rfl]
  repeat any_goals first | assumption | wp_step
  have new1 : (z.heap.push (eS w)).get? z.heap.objs.size = some (eS w) := Heap.get?_push_size _ rfl
  refine codeAny_mono (code_set_led1 (.ref l) (E := E) (Q₁ := fun v y => v = .ref z.heap.objs.size ∧ y = { z with heap := z.heap.push (eS w) }) ⟨rfl, rfl⟩) fun r y hr => ?_
  cases r with
  | error e => exact hr
  | ok fl =>
    cases fl with
    | ret v =>
      obtain ⟨rfl, rfl⟩ := hr
      have hT : Shared.TypeIs { z with heap := z.heap.push (eS w) } (.ref z.heap.objs.size) "set" := ⟨_, new1, rfl⟩
      have i1 := F.called_set.init.lookup
      have i2 := F.called_set.init.bind (.ref z.heap.objs.size)
      repeat any_goals first | assumption | wp_step
      refine init_over (A := A.in1) (z := { z with heap := z.heap.push (eS w) }) (D := z.heap.objs.size) (by simp [hh]) new1 (hl.push _) hit hb (Nat.ne_of_lt ll) fun h' tk c S hc k => ?_
      show wpAny _ _ (pure (some Value.none)) _ _ _
      repeat any_goals first | assumption | wp_step
      exact q h' tk c S hc fun b o e => k b o (Nat.ne_of_lt (Heap.lt_size e)) (Heap.get?_push_of_some _ e)
    | _ => exact hr.elim
end
section
variable {X : Cx}
/-- set(xs) -/
def rSetLI (K : PySem.W.Frag) (w : World) : List V → Hp → VK → Prop := fun xs H Q => ∃ (l : Addr) (ns : List Int), xs = [V.ref l] ∧ SqL K H l (ns.map V.int) ∧ ns.length ≤ 1000 ∧ ∀ p n, n ≤ ns.length → H p = none → Q (.ref p) (upd H p (SetO w p (fun j => decide (j ∈ ns)) n))
theorem cr_setLI (hc : X.calm = true) : CallR X (.type "set") (rSetLI X.K X.w) := by
  intro pins s σ H xs us Q I r h
  obtain ⟨l, ns, rfl, hl, h1, q⟩ := h
  obtain ⟨its, rv, pl, _⟩ := I.list hl
  rw [Vals.ref1 r]
  refine set_over (I.ok.hd hc) pl.isList (ns := ns) (by simpa using rv.ints) (by unfold scanBound; omega) fun h' tk c R hc k => ?_
  exact ⟨.ref _, upd H s.heap.objs.size (SetO X.w s.heap.objs.size (fun j => decide (j ∈ ns)) c), I.laid (t' := tk) k (Nat.le_refl _) (setO_new R), rfl, q _ c hc (I.hok.fresh (Nat.le_refl _))⟩
end
end L2

set_option Elab.async false
set_option linter.all false
set_option maxRecDepth 100000
set_option maxHeartbeats 4000000
/-! sorted(xs), xs a list of tuples of ints, as long as a list may be -/
namespace L2
open PySem PySem.Spec PyProof.Rows PySem.W
abbrev tupE (ns : List Int) : PyData := .tuple (ns.map .int)
theorem tupE_le : dataLe false tupE = fun p q => decide (p ≤ q) := by
  funext p q
  show (!dataLt (.tuple (q.map .int)) (.tuple (p.map .int))) = _
  rw [dataLt_tuple]
  show (!rowLt (q.map .int) (p.map .int)) = _
  rw [dataLt_ints]
  by_cases h : q < p
  · have h' : ¬ p ≤ q := fun r => List.not_lt.mpr r h
    simp [h, h']
  · have h' : p ≤ q := List.not_lt.mp h
    simp [h, h']
section
variable {X : Cx} {pins : List (Addr × Obj)} {σ : St} {H : Hp} {s : Shared}
abbrev TupV (K : PySem.W.Frag) (H : Hp) (u : Value) (ns : List Int) : Prop := ∃ t, u = .ref t ∧ SqT K H t (ns.map V.int)
theorem tupV_of : ∀ {xs : List V} {bs : List (List Int)} {us : List Value}, Paired (TupI X.K H) xs bs → Vals xs us → EachIs (TupV X.K H) us bs
  | _, _, _, .nil, .nil => .nil
  | _, _, _, .cons ⟨t, e, h⟩ p, .cons r v => by
    subst e
    cases r
    exact .cons ⟨t, rfl, h⟩ (tupV_of p v)
theorem tupV_to : ∀ {bs : List (List Int)} {us : List Value}, EachIs (TupV X.K H) us bs → Paired (TupI X.K H) (us.map bkV) bs ∧ ∀ u ∈ us, ∃ a, u = Value.ref a
  | _, _, .nil => ⟨.nil, fun u hu => absurd hu (by simp)⟩
  | _, _, .cons ⟨t, e, h⟩ p => by
    subst e
    obtain ⟨h1, h2⟩ := tupV_to p
    refine ⟨.cons ⟨t, rfl, h⟩ h1, fun u hu => ?_⟩
    rcases List.mem_cons.mp hu with e | hu
    · exact ⟨t, e⟩
    · exact h2 u hu
theorem tupV_reads (I : Inv X pins σ H s) {u : Value} {ns : List Int} (h : TupV X.K H u ns) : ∃ as, Reads s.heap u (tupE ns) as := by
  obtain ⟨t, rfl, ht⟩ := h
  obtain ⟨its, rv, hT, _⟩ := I.tuple ht
  exact ⟨_, reads_tuple_ints hT (by simpa using rv.ints)⟩
/-- sorted(xs): the items ascending as tuples are -/
def rSortTA (K : PySem.W.Frag) : List V → Hp → VK → Prop := fun vs H Q => ∃ (a : Addr) (xs : List V) (bs : List (List Int)), vs = [V.ref a] ∧ SqL K H a xs ∧ Paired (TupI K H) xs bs ∧ (∀ b ∈ bs, b ≠ []) ∧
  ∀ (ys : List V) (p : Addr), Paired (TupI K H) ys (bs.mergeSort fun p q => decide (p ≤ q)) → H p = none → Q (.ref p) (upd H p (.lst ys))
theorem cr_sortTA (hu : X.A.units + 65 < cLine) : CallR X (.builtin "sorted") (rSortTA X.K) := by
  intro pins s σ H vs us Q I r h
  obtain ⟨a, xs, bs, rfl, hs, hp, hne, q⟩ := h
  obtain ⟨its, rv, hl, hz⟩ := I.list hs
  rw [Vals.ref1 r]
  have e0 : EachIs (TupV X.K H) its bs := tupV_of hp rv
  have hlen : bs.length = xs.length := (Paired.length hp).symm
  refine sorted_data (A := X.A) (R := TupV X.K H) (enc := tupE) hl.isList e0 (e0.mono fun u ns h => tupV_reads I h) (AllAlike.of fun b b' => by simp [alike, alike_ints]) (.inl fun d hd => ?_) (by rw [hlen]; exact hz) (fun b _ => ?_) fun out ho eo => ?_
  · obtain ⟨b, hb, rfl⟩ := List.mem_map.mp hd
    match b, hne b hb with
    | x :: r, _ => exact ⟨_, _, rfl⟩
  · have : (tupE b).depth ≤ 1 := by simp [PyData.depth, depth_ints]
    omega
  · rw [tupE_le] at eo
    obtain ⟨e1, e2⟩ := tupV_to eo
    obtain ⟨ep, he'⟩ := PyProof.Rows.sortedAll_at s.heap its out.toArray
    have hz2 : (out.map bkV).length ≤ sizeLine := by
      rw [List.length_map, ho, hlen]
      exact hz
    exact ⟨.ref _, upd H (s.heap.objs.size + 1) (.lst (out.map bkV)), I.laid (t' := s.toks) (fun _ _ => PyProof.Rows.sortedAll_old) (Nat.le_succ _) ⟨hz2, out, ep, bkV_vals e2, he'⟩, rfl, q _ _ e1 (I.hok.fresh (Nat.le_succ _))⟩
end
end L2

set_option Elab.async false
set_option linter.all false
set_option maxRecDepth 100000
set_option maxHeartbeats 4000000
/-! math.factorial -/
namespace L2
open PySem PySem.Spec PyProof.Rows
section
variable {X : Cx}
abbrev facN (n : Nat) : Nat := PySem.Builtin.Math.factorialNat n
def rFac : List V → Hp → VK → Prop := fun vs H Q => ∃ n : Nat, vs = [.int n] ∧ n ≤ 20000 ∧ Q (.int (facN n : Nat)) H
theorem cr_fac : CallR X (.builtin "math.factorial") rFac := by
  intro pins s σ H vs us Q I r h
  obtain ⟨n, rfl, hn, q⟩ := h
  cases r with
  | cons r1 r2 =>
    cases r2
    obtain ⟨t, rfl⟩ := r1
    exact PySem.W.mc_factorial (by omega) (by omega) fun _ => ⟨.int _, H, I.tok _, ⟨_, rfl⟩, q⟩
end
end L2

set_option Elab.async false
set_option linter.all false
set_option maxRecDepth 100000
set_option maxHeartbeats 4000000
/-! sorted(xs), xs a list of one item at most, whatever it is -/
namespace L2
open PySem PySem.Spec PyProof.Rows PySem.W
section
variable {X : Cx}
def rSort1 (K : PySem.W.Frag) : List V → Hp → VK → Prop := fun vs H Q => ∃ (a : Addr) (xs : List V), vs = [V.ref a] ∧ SqL K H a xs ∧ xs.length ≤ 1 ∧
  ∀ p : Addr, H p = none → Q (.ref p) (upd H p (.lst xs))
theorem cr_sort1 : CallR X (.builtin "sorted") (rSort1 X.K) := by
  intro pins s σ H vs us Q I r h
  obtain ⟨a, xs, rfl, hs, h1, q⟩ := h
  obtain ⟨its, rv, hl, hz⟩ := I.list hs
  rw [Vals.ref1 r]
  have hlen : xs.length = its.length := rv.length
  refine Srt.sorted_any hl.isList (by omega) (fun h2 => by omega) fun out hp => ?_
  have e : out = its := by
    match its, hlen with
    | [], _ => exact List.Perm.eq_nil hp
    | [x], _ => exact List.perm_singleton.mp hp
    | _ :: _ :: _, hl => simp only [List.length_cons] at hl; omega
  subst e
  obtain ⟨ep, he'⟩ := PyProof.Rows.sortedAll_at s.heap out out.toArray
  exact ⟨.ref _, upd H (s.heap.objs.size + 1) (.lst xs), I.laid (t' := s.toks) (fun _ _ => PyProof.Rows.sortedAll_old) (Nat.le_succ _) ⟨hz, out, ep, rv, he'⟩, rfl, q _ (I.hok.fresh (Nat.le_succ _))⟩
end
end L2

set_option Elab.async false
set_option linter.all false
set_option maxRecDepth 100000
set_option maxHeartbeats 4000000
/-! xs.extend(t), t a tuple -/
namespace PySem
open PySem PySem.W PySem.AutoSeq1
theorem ext_tup {l b : Addr} {items items2 : Array Value} {n n2 : Nat} {dc : Option Addr} {sl : Array (Option Value)} (hs0 : ¬(!items.isEmpty && Builtin.List.listTooLong (items.size + items2.size)) = true) (hs1 : items.size ≤ sizeLine) (hs2 : items.size + items2.size ≤ sizeLine + 1) :
    Meets (Builtin.«list.extend» ⟨[.ref l, .ref b], []⟩) (fun _ R s => s.heap.get? l = some { cls := .type "list", dict := none, data := .seq items n, slots := #[] } ∧ s.heap.get? b = some { cls := .type "tuple", dict := dc, data := .seq items2 n2, slots := sl } ∧
      R (.ok (.ret Value.none)) { s with heap := s.heap.update l (Obj.mapSeq fun x => x ++ items2), toks := s.toks }) :=
  .of_wp fun prog w A R s h => by
    obtain ⟨hp, g, d, tk, os⟩ := s
    obtain ⟨hl, hb, h⟩ := h
    have f1 := idx_int
    have f2 := sub_tuple_tuple
    have f3 := sub_list_list
    have f4 := sub_tuple_list
    have f5 := sub_list_tuple
    have hz' : (items ++ items2).size ≤ sizeLine + 1 := by rw [Array.size_append]; exact hs2
    wp_walk using (wpAny_updateSeq hl rfl (hz := hs1) (_hz' := hz')), wpAny_loadPart' hl, wpAny_loadPart' hb
    exact ⟨_, rfl, h⟩
end PySem
namespace L2
open PySem PySem.Spec PyProof.Rows PySem.W
section
variable {X : Cx}
def rExtT (K : PySem.W.Frag) : V → List V → Hp → VK → Prop := fun x vs H Q => ∃ (l b : Addr) (xs zs : List V), x = .ref l ∧ vs = [.ref b] ∧ H l = some (.lst xs) ∧ SqT K H b zs ∧ xs.length + zs.length ≤ sizeLine ∧
  Q .non (upd H l (.lst (xs ++ zs)))
theorem mt_extendT : MtM X "list.extend" (rExtT X.K) := by
  intro pins s σ H x vs v us Q I rx rv h
  obtain ⟨l, b, xs, zs, rfl, rfl, hH, hB, hz, q⟩ := h
  cases rx
  obtain ⟨u, rfl, ru⟩ := rv.one
  cases ru
  obtain ⟨z, its, n, r, hl, e⟩ := I.lstM hH
  obtain ⟨its2, r2, ⟨ob, eb, hc, n2, hd⟩, hl2⟩ := I.tuple hB
  obtain ⟨cls, dc, data, sl⟩ := ob
  dsimp only at hc hd
  subst hc hd
  have h1 := r.length
  have h2 := r2.length
  have hsz : its.toArray.size + its2.toArray.size ≤ sizeLine := by rw [List.size_toArray, List.size_toArray]; omega
  have hlong : ¬ (!its.toArray.isEmpty && Builtin.List.listTooLong (its.toArray.size + its2.toArray.size)) = true := by
    rw [notLongL hsz, Bool.and_false]
    exact Bool.false_ne_true
  refine call_meets F.slot_list_extend ⟨_, e, rfl⟩ F.entry_list_extend (F.args_list_extend_2 _ _) (PySem.ext_tup hlong (by rw [List.size_toArray]; omega) (by omega)) ⟨e, eb, ?_⟩
  refine ⟨.non, _, I.lset (its' := its ++ its2) hH e (by simp) (r.append r2) ?_, rfl, q⟩
  rw [List.length_append]
  omega
end
end L2

set_option Elab.async false
set_option linter.all false
set_option maxRecDepth 100000
set_option maxHeartbeats 4000000
/-! set(xs), xs a tuple of ints, as a value -/
namespace L2
open PySem PySem.Spec PyProof.Rows
section
variable {P : Program} {w : World} {A : Around} {E : Value → Shared → Prop}
theorem sub_tup_set : isSubtype (.type "tuple") (.type "set") = pure false := by rw [isSubtype_type]; kernel_rfl
theorem sub_tup_frz : isSubtype (.type "tuple") (.type "frozenset") = pure false := by rw [isSubtype_type]; kernel_rfl
theorem init_overT {z : Shared} {D l : Addr} {items : Array Value} {ns : List Int} {R : Result → Shared → Prop} (hh : A.handled = none) (hD : z.heap.get? D = some (eS w)) (hl : z.heap.IsTuple l items) (hit : IntsAre items.toList ns) (hb : ns.length + 1 < scanBound) (hne : l ≠ D)
    (q : ∀ (h' : Heap) (tk c : Nat), SetR w h' D (fun j => decide (j ∈ ns)) c → c ≤ ns.length → (∀ b o, b ≠ D → z.heap.get? b = some o → h'.get? b = some o) → R (.ok (.ret .none)) { z with heap := h', toks := tk }) :
    codeAny (model P w) A (.call (.builtin "set.__init__") ⟨[.ref D, .ref l], []⟩) R z := by
  have hn : items.size = ns.length := by
    have e := IntsAre.length hit
    rw [Array.length_toList] at e
    exact e
  have hT : Shared.TypeIs z (.ref D) "set" := ⟨_, hD, rfl⟩
  have lD : D < z.heap.objs.size := Heap.lt_size hD
  obtain ⟨⟨oc, od, oa, os⟩, hol, hcl, nl, hdl⟩ := id hl
  have ll : l < z.heap.objs.size := Heap.lt_size hol
  dsimp only at hcl hdl
  subst hcl hdl
  have no1 := sub_tup_set
  have no2 := sub_tup_frz
  have no3 : (Value.type "tuple" == Value.type "dict") = false := by decide
  refine codeAny_call_builtin F.called_set.init.plain F.entry_set_init (check_set_init_1 hT ?_)
  unfold Builtin.«set.__init__» noKeywords Builtin.Frozenset.updateFrom
  generalize hPI : pyIter = PI
  wp_walk
  subst hPI
  refine wpAny_pyIter_tuple hl ?_
  refine wpAny_bind (wpAny_runValue ?_)
  have free3 : A.in1.in1.handled = none := by simp [hh]
  have apart : l ≠ z.heap.objs.size := Nat.ne_of_lt ll
  have offS : D ∉ [z.heap.objs.size, l] := fun m => by
    rcases List.mem_cons.mp m with y | y
    · exact absurd y (Nat.ne_of_lt lD)
    · exact hne (List.mem_singleton.mp y).symm
  have each : ∀ (i : Nat) (v : Value), items[i]? = some v → ∃ k t, ns[i]? = some k ∧ v = .int k t := fun i v e => by
    have hi : i < ns.length := hn ▸ (Array.getElem?_eq_some_iff.mp e).1
    obtain ⟨t, e2⟩ := IntsAre.int_at hit i v (by rw [Array.getElem?_toList]; exact e)
    exact ⟨ns[i], t, List.getElem?_eq_getElem hi, by rw [e2, List.getD_eq_getElem?_getD, List.getElem?_eq_getElem hi]; rfl⟩
  refine set_update_ints ((Walks.tuple free3 _ l apart items).toS) D offS ns hn hb each (items.size - 0) 0 _ (by omega) (Nat.zero_le _) ?_ ⟨0, Nat.le_refl 0, ?_⟩ ?_
  · exact ⟨⟨_, Heap.get?_push_size _ rfl, rfl, rfl⟩, hl.push _⟩
  · exact setR_new_at (Heap.get?_push_of_some _ hD)
  rintro ⟨h', gens', drawn', tk', os'⟩ c moved hc new
  obtain rfl : gens' = z.gens := moved.gens
  obtain rfl : drawn' = z.drawn := moved.drawn
  obtain rfl : os' = z.os := moved.os
  show wpAny _ _ _ _ _ _
  refine wpAny_pure ?_
  show wpAny _ _ (ret Value.none) _ _ _
  refine wpAny_pure (q h' tk' c new (by omega) fun b o hbD e => ?_)
  have lb : b < z.heap.objs.size := Heap.lt_size e
  refine moved.heap b o (fun m => ?_) (Heap.get?_push_of_some _ e)
  rcases List.mem_cons.mp m with y | y
  · exact hbD y
  · exact absurd (List.mem_singleton.mp y) (Nat.ne_of_lt lb)
theorem set_overT {z : Shared} {l : Addr} {items : Array Value} {ns : List Int} {Q : Value → Shared → Prop} (hh : A.handled = none) (hl : z.heap.IsTuple l items) (hit : IntsAre items.toList ns) (hb : ns.length + 1 < scanBound)
    (q : ∀ (h' : Heap) (tk c : Nat), SetR w h' z.heap.objs.size (fun j => decide (j ∈ ns)) c → c ≤ ns.length → (∀ b o, z.heap.get? b = some o → h'.get? b = some o) → Q (.ref z.heap.objs.size) { z with heap := h', toks := tk }) :
    wpAny (model P w) A (call (.type "set") [.ref l]) Q E z := by
  obtain ⟨c0, t0, mro0⟩ := F.called_set.mro
  have m1 := F.called_set.made
  have m2 := F.called_set.sub
  have m3 := F.called_set.notType
  have m4 := F.called_set.canCreate
  have m5 := F.typeCall_set_1 (.ref l)
  have ll : l < z.heap.objs.size := by
    obtain ⟨o, ho, _⟩ := id hl
    exact Heap.lt_size ho
  refine wpAny_call (codeAny_of_tree ?_)
  show wpAny _ _ (callAny (.type "set") _) _ _ _
  refine wpAny_pure ⟨Code.quiet_builtin _ (by decide +kernel), codeAny_builtin F.entry_type_call ?_⟩
  rw [Around.under_plain (weight_type_call_type "set" [.ref l] []) rfl]
  repeat any_goals first | assumption | wp_step
  have new1 : (z.heap.push (eS w)).get? z.heap.objs.size = some (eS w) := Heap.get?_push_size _ rfl
  refine codeAny_mono (code_set_led1 (.ref l) (E := E) (Q₁ := fun v y => v = .ref z.heap.objs.size ∧ y = { z with heap := z.heap.push (eS w) }) ⟨rfl, rfl⟩) fun r y hr => ?_
  cases r with
  | error e => exact hr
  | ok fl =>
    cases fl with
    | ret v =>
      obtain ⟨rfl, rfl⟩ := hr
      have hT : Shared.TypeIs { z with heap := z.heap.push (eS w) } (.ref z.heap.objs.size) "set" := ⟨_, new1, rfl⟩
      have i1 := F.called_set.init.lookup
      have i2 := F.called_set.init.bind (.ref z.heap.objs.size)
      repeat any_goals first | assumption | wp_step
      refine init_overT (A := A.in1) (z := { z with heap := z.heap.push (eS w) }) (D := z.heap.objs.size) (by simp [hh]) new1 (hl.push _) hit hb (Nat.ne_of_lt ll) fun h' tk c S hc k => ?_
      show wpAny _ _ (pure (some Value.none)) _ _ _
      repeat any_goals first | assumption | wp_step
      exact q h' tk c S hc fun b o e => k b o (Nat.ne_of_lt (Heap.lt_size e)) (Heap.get?_push_of_some _ e)
    | _ => exact hr.elim
end
section
variable {X : Cx}
/-- set(xs) -/
def rSetTI (K : PySem.W.Frag) (w : World) : List V → Hp → VK → Prop := fun xs H Q => ∃ (l : Addr) (ns : List Int), xs = [V.ref l] ∧ SqT K H l (ns.map V.int) ∧ ns.length ≤ 1000 ∧ ∀ p n, n ≤ ns.length → H p = none → Q (.ref p) (upd H p (SetO w p (fun j => decide (j ∈ ns)) n))
theorem cr_setTI (hc : X.calm = true) : CallR X (.type "set") (rSetTI X.K X.w) := by
  intro pins s σ H xs us Q I r h
  obtain ⟨l, ns, rfl, hl, h1, q⟩ := h
  obtain ⟨its, rv, pl, _⟩ := I.tuple hl
  rw [Vals.ref1 r]
  refine set_overT (I.ok.hd hc) pl (ns := ns) (by simpa using rv.ints) (by unfold scanBound; omega) fun h' tk c R hc k => ?_
  exact ⟨.ref _, upd H s.heap.objs.size (SetO X.w s.heap.objs.size (fun j => decide (j ∈ ns)) c), I.laid (t' := tk) k (Nat.le_refl _) (setO_new R), rfl, q _ c hc (I.hok.fresh (Nat.le_refl _))⟩
end
end L2

set_option Elab.async false
set_option linter.all false
set_option maxRecDepth 100000
set_option maxHeartbeats 4000000
/-! t > u, both tuples of ints -/
namespace L2
open PySem PySem.Spec PyProof.Rows
abbrev gtB (ns ms : List Int) : Bool := Ob.lexAt (fun j => decide (ns.getD j 0 = ms.getD j 0)) (fun j => decide (ms.getD j 0 < ns.getD j 0)) (decide (ms.length < ns.length)) 0 (min ns.length ms.length)
def rGtT (K : PySem.W.Frag) : R2 := fun x y H Q => ∃ (t1 t2 : Addr) (ns ms : List Int), (x = .ref t1 ∧ y = .ref t2) ∧ (SqT K H t1 (ns.map V.int) ∧ SqT K H t2 (ms.map V.int)) ∧ Q (.bl (gtB ns ms)) H
theorem op_gtT {X : Cx} (few : X.A.units < cLine) : OpR X (compareOp .Gt) (rGtT X.K) := by
  rintro pins s σ H x y v u Q I rx ry ⟨t1, t2, ns, ms, ⟨rfl, rfl⟩, ⟨h1, h2⟩, q⟩
  cases rx; cases ry
  obtain ⟨us, va, pa, _⟩ := I.tuple h1
  obtain ⟨ws, vb, pb, _⟩ := I.tuple h2
  have item : ∀ {zs : List Value} {ks : List Int}, IntsAre zs ks → ∀ j (h : j < zs.toArray.size), ∃ t, zs.toArray[j] = .int (ks.getD j 0) t := fun ii j h =>
    PyProof.Rows.IntsAre.int_at ii _ _ (by simp at h; simp [h])
  have size : ∀ {zs : List Value} {ks : List Int}, IntsAre zs ks → zs.toArray.size = ks.length := fun ii => by rw [List.size_toArray]; exact ii.length
  have beq : ∀ a b : Int, decide (a = b) = (a == b) := fun a b => by
    by_cases c : a = b
    · subst c; simp
    · rw [decide_eq_false c]; exact (beq_eq_false_iff_ne.mpr c).symm
  have main := Ob.RcOp.tuples_gt (A := X.A) (s := s) (e := fun j => decide (ns.getD j 0 = ms.getD j 0)) (r := fun j => decide (ms.getD j 0 < ns.getD j 0)) pa pb few
    (fun j i1 i2 => by
      obtain ⟨k1, g1⟩ := item va.ints j i1
      obtain ⟨k2, g2⟩ := item vb.ints j i2
      rw [g1, g2, beq]
      exact SeqAt.EqAt.int_int _ _ _ _)
    (fun j i1 i2 _ => by
      obtain ⟨k1, g1⟩ := item va.ints j i1
      obtain ⟨k2, g2⟩ := item vb.ints j i2
      rw [g1, g2]
      exact Ob.RcOp.gt_int _ _ _ _)
  rw [size va.ints, size vb.ints] at main
  exact main X.prog X.w X.xe (EP X pins σ Q) ⟨.bl _, H, I, rfl, q⟩
end L2

set_option Elab.async false
set_option linter.all false
set_option maxRecDepth 100000
set_option maxHeartbeats 4000000
/-! zip over two tuples, as a walk; != of own objects of two classes -/
namespace L2
open PySem PySem.Spec PyProof.Rows
theorem walk_zipT {K : PySem.W.Frag} {a b : Addr} {xs ys : List V} {n : Nat} (hn : n = min xs.length ys.length) : Walk (RZ.ItzT K a b) n (fun H => SqT K H a xs ∧ SqT K H b ys) (YPair (fun i => xs[i]?) (fun i => ys[i]?)) := by
  subst hn
  refine ⟨fun i _ hi q => ?_, fun _ q => ⟨xs, ys, q.1, q.2, by omega⟩, fun i H v H' _ q y => ?_⟩
  · have h1 : i < xs.length := by omega
    have h2 : i < ys.length := by omega
    exact ⟨xs, ys, xs[i], ys[i], q.1, q.2, by simp [h1], by simp [h2]⟩
  · obtain ⟨T, x, z, h1, h2, h3, h4, h5⟩ := y
    exact ⟨T, x, z, h1, h2, h3, h4 xs q.1, h5 ys q.2⟩
end L2
namespace Tw
open PySem PySem.Spec PyProof.Rows L2
open PySem.W (InstAt looks_findIn looks_subIn ifBound_K cmp_K)
section
variable {X : Cx} {CX : CXT} {k : Nat} {f C D : Addr} {fd : FuncData} {ps : List Str} {sp : Sp} {E : XK}
/-- != where the other one is an object of another class -/
def rNeD (C D : Addr) (sp : Sp) (E : XK) : R2 := fun x y H Q =>
  ∃ a dx fs b dy gs, x = .ref a ∧ H a = some (.ins C dx fs) ∧ y = .ref b ∧ H b = some (.ins D dy gs) ∧ sp [.ref a, y] H (fun v H' => ∃ r, v = .bl r ∧ Q (.bl (!r)) H') E
theorem op_ne_two (c : EqC X.K C f) (hd : PySem.W.notFirst X.K C (.ref D) = true) (F : FnOk X.prog X.w X.K X.mg X.base CX k f fd ps sp) (hr : Room (k + 1) X.A) (hb : Binds X.K fd ps []) (hx : Passes CX X E) : OpR X (compareOp .NotEq) (rNeD C D sp E) := by
  intro pins s σ H x y v u Q I rx ry ⟨a, dx, fs, b, dy, gs, ex, ha, ey, hb2, q⟩
  subst ex
  subst ey
  obtain rfl : v = Value.ref a := rx
  obtain rfl : u = Value.ref b := ry
  obtain ⟨mA, O, rr, _, _, _⟩ := ins_get I.hok ha
  obtain ⟨od, J, hl⟩ := O.look
  obtain ⟨mB, OB, rrB, _, _, _⟩ := ins_get I.hok hb2
  obtain ⟨odB, JB, hlB⟩ := OB.look
  obtain ⟨m0, hF⟩ := I.fr
  show wpAny _ _ (richCompare .NotEq (.ref a) (.ref b)) _ _ _
  refine ne_K (Room.units0 hr.in1) hr.units0 hF I.ok.mod.kin J JB.type hd c (thn (run_sub F (Sub.in1 ⟨hr, rfl⟩) hb hx I (.cons (relR a) (.cons (relR b) .nil)) q) fun r s' ⟨z, H', I', rz, b2, ez, q'⟩ => ?_)
  subst ez
  exact ⟨b2, rz, _, H', I', relB (!b2), q'⟩
end
end Tw

set_option Elab.async false
set_option linter.all false
set_option maxRecDepth 100000
set_option maxHeartbeats 2000000
namespace Tw
open PySem PySem.Spec PyProof.Rows L2
def topS (i : Nat) : Stmt := PySem.Challenge.pw_heaprows_k20_whole_built_codes.main.body.getD i (.Pass ⟨0, 0, 0, 0⟩)
abbrev s_is_integer : Stmt := topS 14
theorem sc_is_integer : FnScope ["thing"] ["thing"] (defScope s_is_integer) := ⟨rfl, rfl, rfl, by decide +kernel, rfl, by decide +kernel, by decide +kernel⟩
abbrev s_is_integer_from : Stmt := topS 15
theorem sc_is_integer_from : FnScope ["thing", "least", "greatest"] ["thing", "least", "greatest"] (defScope s_is_integer_from) := ⟨rfl, rfl, rfl, by decide +kernel, rfl, by decide +kernel, by decide +kernel⟩
abbrev s_is_key : Stmt := topS 16
theorem sc_is_key : FnScope ["thing"] ["thing"] (defScope s_is_key) := ⟨rfl, rfl, rfl, by decide +kernel, rfl, by decide +kernel, by decide +kernel⟩
abbrev s_check_arms : Stmt := topS 17
theorem sc_check_arms : FnScope ["arms"] ["arms"] (defScope s_check_arms) := ⟨rfl, rfl, rfl, by decide +kernel, rfl, by decide +kernel, by decide +kernel⟩
abbrev s_check_many : Stmt := topS 18
theorem sc_check_many : FnScope ["many"] ["many"] (defScope s_check_many) := ⟨rfl, rfl, rfl, by decide +kernel, rfl, by decide +kernel, by decide +kernel⟩
abbrev s_check_place : Stmt := topS 19
theorem sc_check_place : FnScope ["place", "many"] ["place", "many"] (defScope s_check_place) := ⟨rfl, rfl, rfl, by decide +kernel, rfl, by decide +kernel, by decide +kernel⟩
abbrev s_row_of : Stmt := topS 20
theorem sc_row_of : FnScope ["row", "index", "key"] ["row"] (defScope s_row_of) := ⟨rfl, rfl, rfl, by decide +kernel, rfl, by decide +kernel, by decide +kernel⟩
abbrev s_check_different : Stmt := topS 21
theorem sc_check_different : FnScope ["keys", "place", "key"] ["keys"] (defScope s_check_different) := ⟨rfl, rfl, rfl, by decide +kernel, rfl, by decide +kernel, by decide +kernel⟩
abbrev s_t___init__ : Stmt := inClass (topS 23) 0
theorem sc_t___init__ : FnScope ["self", "many", "arms"] ["self", "many", "arms"] (defScope s_t___init__) := ⟨rfl, rfl, rfl, by decide +kernel, rfl, by decide +kernel, by decide +kernel⟩
abbrev s_t_of : Stmt := inClass (topS 23) 1
theorem sc_t_of : FnScope ["cls", "row", "arms"] ["cls", "row", "arms"] (defScope s_t_of) := ⟨rfl, rfl, rfl, by decide +kernel, rfl, by decide +kernel, by decide +kernel⟩
abbrev s_t___len__ : Stmt := inClass (topS 23) 2
theorem sc_t___len__ : FnScope ["self"] ["self"] (defScope s_t___len__) := ⟨rfl, rfl, rfl, by decide +kernel, rfl, by decide +kernel, by decide +kernel⟩
abbrev s_t___contains__ : Stmt := inClass (topS 23) 3
theorem sc_t___contains__ : FnScope ["self", "thing"] ["self", "thing"] (defScope s_t___contains__) := ⟨rfl, rfl, rfl, by decide +kernel, rfl, by decide +kernel, by decide +kernel⟩
abbrev s_t___iter__ : Stmt := inClass (topS 23) 4
theorem sc_t___iter__ : FnScope ["self"] ["self"] (defScope s_t___iter__) := ⟨rfl, rfl, rfl, by decide +kernel, rfl, by decide +kernel, by decide +kernel⟩
abbrev s_t___getitem__ : Stmt := inClass (topS 23) 5
theorem sc_t___getitem__ : FnScope ["self", "place", "first"] ["self", "place"] (defScope s_t___getitem__) := ⟨rfl, rfl, rfl, by decide +kernel, rfl, by decide +kernel, by decide +kernel⟩
abbrev s_t_parent : Stmt := inClass (topS 23) 7
theorem sc_t_parent : FnScope ["self", "place"] ["self", "place"] (defScope s_t_parent) := ⟨rfl, rfl, rfl, by decide +kernel, rfl, by decide +kernel, by decide +kernel⟩
abbrev s_t_way_to : Stmt := inClass (topS 23) 8
theorem sc_t_way_to : FnScope ["self", "place", "way", "above"] ["self", "place"] (defScope s_t_way_to) := ⟨rfl, rfl, rfl, by decide +kernel, rfl, by decide +kernel, by decide +kernel⟩
abbrev s_t_depth : Stmt := inClass (topS 23) 9
theorem sc_t_depth : FnScope ["self", "place"] ["self", "place"] (defScope s_t_depth) := ⟨rfl, rfl, rfl, by decide +kernel, rfl, by decide +kernel, by decide +kernel⟩
abbrev s_t_subtree : Stmt := inClass (topS 23) 12
theorem sc_t_subtree : FnScope ["self", "place", "below"] ["self", "place"] (defScope s_t_subtree) := ⟨rfl, rfl, rfl, by decide +kernel, rfl, by decide +kernel, by decide +kernel⟩
abbrev s_faults : Stmt := topS 25
theorem sc_faults : FnScope ["row", "arms", "tree", "place"] ["row", "arms"] (defScope s_faults) := ⟨rfl, rfl, rfl, by decide +kernel, rfl, by decide +kernel, by decide +kernel⟩
abbrev s_heap_of : Stmt := topS 26
theorem sc_heap_of : FnScope ["row", "arms", "wrong"] ["row", "arms"] (defScope s_heap_of) := ⟨rfl, rfl, rfl, by decide +kernel, rfl, by decide +kernel, by decide +kernel⟩
abbrev s_different_heap_of : Stmt := topS 27
theorem sc_different_heap_of : FnScope ["row", "arms", "heap"] ["row", "arms"] (defScope s_different_heap_of) := ⟨rfl, rfl, rfl, by decide +kernel, rfl, by decide +kernel, by decide +kernel⟩
abbrev s_z___init__ : Stmt := inClass (topS 29) 0
theorem sc_z___init__ : FnScope ["self", "row", "way", "looks"] ["self", "row", "way", "looks"] (defScope s_z___init__) := ⟨rfl, rfl, rfl, by decide +kernel, rfl, by decide +kernel, by decide +kernel⟩
abbrev s_sift_down : Stmt := topS 30
theorem sc_sift_down : FnScope ["row", "place", "arms", "tree", "children", "keys", "way", "looks", "here", "child"] ["row", "place", "arms"] (defScope s_sift_down) := ⟨rfl, rfl, rfl, by decide +kernel, rfl, by decide +kernel, by decide +kernel⟩
abbrev s_least_child : Stmt := topS 31
theorem sc_least_child : FnScope ["keys", "children"] ["keys", "children"] (defScope s_least_child) := ⟨rfl, rfl, rfl, by decide +kernel, rfl, by decide +kernel, by decide +kernel⟩
abbrev s_row_before : Stmt := topS 32
theorem sc_row_before : FnScope ["row", "way", "keys", "place", "after"] ["row", "way"] (defScope s_row_before) := ⟨rfl, rfl, rfl, by decide +kernel, rfl, by decide +kernel, by decide +kernel⟩
abbrev s_u___init__ : Stmt := inClass (topS 34) 0
theorem sc_u___init__ : FnScope ["self", "row", "stops", "changes", "looks", "stop"] ["self", "row", "stops", "changes", "looks"] (defScope s_u___init__) := ⟨rfl, rfl, rfl, by decide +kernel, rfl, by decide +kernel, by decide +kernel⟩
abbrev s_build : Stmt := topS 35
theorem sc_build : FnScope ["row", "arms", "tree", "heap", "stops", "changes", "looks", "place", "sift"] ["row", "arms"] (defScope s_build) := ⟨rfl, rfl, rfl, by decide +kernel, rfl, by decide +kernel, by decide +kernel⟩
abbrev s_code : Stmt := topS 37
theorem sc_code : FnScope ["row", "arms", "made"] ["row", "arms"] (defScope s_code) := ⟨rfl, rfl, rfl, by decide +kernel, rfl, by decide +kernel, by decide +kernel⟩
abbrev s_decode : Stmt := topS 38
theorem sc_decode : FnScope ["row", "stops", "arms", "heap", "tree"] ["row", "stops", "arms"] (defScope s_decode) := ⟨rfl, rfl, rfl, by decide +kernel, rfl, by decide +kernel, by decide +kernel⟩
abbrev s_places_that_stop : Stmt := topS 39
theorem sc_places_that_stop : FnScope ["tree", "place"] ["tree"] (defScope s_places_that_stop) := ⟨rfl, rfl, rfl, by decide +kernel, rfl, by decide +kernel, by decide +kernel⟩
abbrev s_check_stops : Stmt := topS 40
theorem sc_check_stops : FnScope ["stops", "tree", "places", "index", "place"] ["stops", "tree"] (defScope s_check_stops) := ⟨rfl, rfl, rfl, by decide +kernel, rfl, by decide +kernel, by decide +kernel⟩
abbrev s_is_stop : Stmt := topS 41
theorem sc_is_stop : FnScope ["thing", "place", "tree", "begun", "ended"] ["thing", "place", "tree"] (defScope s_is_stop) := ⟨rfl, rfl, rfl, by decide +kernel, rfl, by decide +kernel, by decide +kernel⟩
abbrev s_row_with : Stmt := topS 42
theorem sc_row_with : FnScope ["heap", "stops", "tree", "row", "place", "stop"] ["heap", "stops", "tree"] (defScope s_row_with) := ⟨rfl, rfl, rfl, by decide +kernel, rfl, by decide +kernel, by decide +kernel⟩
abbrev s_way_down : Stmt := topS 43
theorem sc_way_down : FnScope ["tree", "place", "stop"] ["tree", "place", "stop"] (defScope s_way_down) := ⟨rfl, rfl, rfl, by decide +kernel, rfl, by decide +kernel, by decide +kernel⟩
abbrev s__law_number : Stmt := topS 45
theorem sc__law_number : FnScope ["script", "index", "cells", "cell", "low", "high", "total", "blend"] ["script", "index"] (defScope s__law_number) := ⟨rfl, rfl, rfl, by decide +kernel, rfl, by decide +kernel, by decide +kernel⟩
abbrev s__law_take : Stmt := topS 46
theorem sc__law_take : FnScope ["draw", "many"] ["draw", "many"] (defScope s__law_take) := ⟨rfl, rfl, rfl, by decide +kernel, rfl, by decide +kernel, by decide +kernel⟩
abbrev s__law_pick : Stmt := topS 47
theorem sc__law_pick : FnScope ["draw", "things"] ["draw", "things"] (defScope s__law_pick) := ⟨rfl, rfl, rfl, by decide +kernel, rfl, by decide +kernel, by decide +kernel⟩
abbrev s__law_parent : Stmt := topS 48
theorem sc__law_parent : FnScope ["wide", "place"] ["wide", "place"] (defScope s__law_parent) := ⟨rfl, rfl, rfl, by decide +kernel, rfl, by decide +kernel, by decide +kernel⟩
abbrev s__law_children : Stmt := topS 49
theorem sc__law_children : FnScope ["wide", "many", "place", "other"] ["wide", "many", "place"] (defScope s__law_children) := ⟨rfl, rfl, rfl, by decide +kernel, rfl, by decide +kernel, by decide +kernel⟩
abbrev s__law_way : Stmt := topS 50
theorem sc__law_way : FnScope ["wide", "place", "way", "lap"] ["wide", "place"] (defScope s__law_way) := ⟨rfl, rfl, rfl, by decide +kernel, rfl, by decide +kernel, by decide +kernel⟩
abbrev s__law_subtree : Stmt := topS 51
theorem sc__law_subtree : FnScope ["wide", "many", "place", "other"] ["wide", "many", "place"] (defScope s__law_subtree) := ⟨rfl, rfl, rfl, by decide +kernel, rfl, by decide +kernel, by decide +kernel⟩
abbrev s__law_arms : Stmt := topS 52
theorem sc__law_arms : FnScope ["draw"] ["draw"] (defScope s__law_arms) := ⟨rfl, rfl, rfl, by decide +kernel, rfl, by decide +kernel, by decide +kernel⟩
abbrev s__law_order : Stmt := topS 53
theorem sc__law_order : FnScope ["draw", "many", "left", "order", "turn"] ["draw", "many"] (defScope s__law_order) := ⟨rfl, rfl, rfl, by decide +kernel, rfl, by decide +kernel, by decide +kernel⟩
abbrev s__law_heap : Stmt := topS 54
theorem sc__law_heap : FnScope ["keys", "wide", "row", "key", "place", "lap", "above"] ["keys", "wide"] (defScope s__law_heap) := ⟨rfl, rfl, rfl, by decide +kernel, rfl, by decide +kernel, by decide +kernel⟩
abbrev s__law_down : Stmt := topS 55
theorem sc__law_down : FnScope ["row", "wide", "place", "late", "way", "looks", "lap", "below", "least", "other"] ["row", "wide", "place"] (defScope s__law_down) := ⟨rfl, rfl, rfl, by decide +kernel, rfl, by decide +kernel, by decide +kernel⟩
abbrev s__law_built : Stmt := topS 56
theorem sc__law_built : FnScope ["row", "wide", "late", "stops", "turns", "looks", "place", "found"] ["row", "wide"] (defScope s__law_built) := ⟨rfl, rfl, rfl, by decide +kernel, rfl, by decide +kernel, by decide +kernel⟩
abbrev s__law_unlike : Stmt := topS 57
theorem sc__law_unlike : FnScope ["draw", "many", "low", "step", "number"] ["draw", "many"] (defScope s__law_unlike) := ⟨rfl, rfl, rfl, by decide +kernel, rfl, by decide +kernel, by decide +kernel⟩
abbrev s__law_stops : Stmt := topS 58
theorem sc__law_stops : FnScope ["draw", "wide", "many", "found", "place"] ["draw", "wide", "many"] (defScope s__law_stops) := ⟨rfl, rfl, rfl, by decide +kernel, rfl, by decide +kernel, by decide +kernel⟩
abbrev s_law : Stmt := topS 59
theorem sc_law : FnScope ["script", "draw", "turn", "wide", "many", "keys", "found", "heap", "stops", "row"] ["script"] (defScope s_law) := ⟨rfl, rfl, rfl, by decide +kernel, rfl, by decide +kernel, by decide +kernel⟩
/-- where the text's defs stand -/
structure Ad where
  f_is_integer : Addr
  d_is_integer : FuncData
  f_is_integer_from : Addr
  d_is_integer_from : FuncData
  f_is_key : Addr
  d_is_key : FuncData
  f_check_arms : Addr
  d_check_arms : FuncData
  f_check_many : Addr
  d_check_many : FuncData
  f_check_place : Addr
  d_check_place : FuncData
  f_row_of : Addr
  d_row_of : FuncData
  f_check_different : Addr
  d_check_different : FuncData
  f_t___init__ : Addr
  d_t___init__ : FuncData
  f_t_of : Addr
  d_t_of : FuncData
  f_t___len__ : Addr
  d_t___len__ : FuncData
  f_t___contains__ : Addr
  d_t___contains__ : FuncData
  f_t___iter__ : Addr
  d_t___iter__ : FuncData
  f_t___getitem__ : Addr
  d_t___getitem__ : FuncData
  f_t_parent : Addr
  d_t_parent : FuncData
  f_t_way_to : Addr
  d_t_way_to : FuncData
  f_t_depth : Addr
  d_t_depth : FuncData
  f_t_subtree : Addr
  d_t_subtree : FuncData
  f_faults : Addr
  d_faults : FuncData
  f_heap_of : Addr
  d_heap_of : FuncData
  f_different_heap_of : Addr
  d_different_heap_of : FuncData
  f_z___init__ : Addr
  d_z___init__ : FuncData
  f_sift_down : Addr
  d_sift_down : FuncData
  f_least_child : Addr
  d_least_child : FuncData
  f_row_before : Addr
  d_row_before : FuncData
  f_u___init__ : Addr
  d_u___init__ : FuncData
  f_build : Addr
  d_build : FuncData
  f_code : Addr
  d_code : FuncData
  f_decode : Addr
  d_decode : FuncData
  f_places_that_stop : Addr
  d_places_that_stop : FuncData
  f_check_stops : Addr
  d_check_stops : FuncData
  f_is_stop : Addr
  d_is_stop : FuncData
  f_row_with : Addr
  d_row_with : FuncData
  f_way_down : Addr
  d_way_down : FuncData
  f__law_number : Addr
  d__law_number : FuncData
  f__law_take : Addr
  d__law_take : FuncData
  f__law_pick : Addr
  d__law_pick : FuncData
  f__law_parent : Addr
  d__law_parent : FuncData
  f__law_children : Addr
  d__law_children : FuncData
  f__law_way : Addr
  d__law_way : FuncData
  f__law_subtree : Addr
  d__law_subtree : FuncData
  f__law_arms : Addr
  d__law_arms : FuncData
  f__law_order : Addr
  d__law_order : FuncData
  f__law_heap : Addr
  d__law_heap : FuncData
  f__law_down : Addr
  d__law_down : FuncData
  f__law_built : Addr
  d__law_built : FuncData
  f__law_unlike : Addr
  d__law_unlike : FuncData
  f__law_stops : Addr
  d__law_stops : FuncData
  f_law : Addr
  d_law : FuncData
  C : Addr
  po : Addr
  CS : Addr
  CB : Addr
  c_least_child : Addr
  P_least_child : Addr
/-- what the top has written -/
structure Tx (K : PySem.W.Frag) (mg : Str → Option Value) (A : Ad) : Prop where
  F_is_integer : Fun K "is_integer" "is_integer" s_is_integer A.f_is_integer A.d_is_integer
  m_is_integer : mg "is_integer" = some (.ref A.f_is_integer)
  F_is_integer_from : Fun K "is_integer_from" "is_integer_from" s_is_integer_from A.f_is_integer_from A.d_is_integer_from
  m_is_integer_from : mg "is_integer_from" = some (.ref A.f_is_integer_from)
  F_is_key : Fun K "is_key" "is_key" s_is_key A.f_is_key A.d_is_key
  m_is_key : mg "is_key" = some (.ref A.f_is_key)
  F_check_arms : Fun K "check_arms" "check_arms" s_check_arms A.f_check_arms A.d_check_arms
  m_check_arms : mg "check_arms" = some (.ref A.f_check_arms)
  F_check_many : Fun K "check_many" "check_many" s_check_many A.f_check_many A.d_check_many
  m_check_many : mg "check_many" = some (.ref A.f_check_many)
  F_check_place : Fun K "check_place" "check_place" s_check_place A.f_check_place A.d_check_place
  m_check_place : mg "check_place" = some (.ref A.f_check_place)
  F_row_of : Fun K "row_of" "row_of" s_row_of A.f_row_of A.d_row_of
  m_row_of : mg "row_of" = some (.ref A.f_row_of)
  F_check_different : Fun K "check_different" "check_different" s_check_different A.f_check_different A.d_check_different
  m_check_different : mg "check_different" = some (.ref A.f_check_different)
  F_t___init__ : FunD K "__init__" "Tree.__init__" (defArgs s_t___init__) (defBody s_t___init__) (defScope s_t___init__) [] [("arms", V.int 2)] A.f_t___init__ A.d_t___init__
  F_t_of : FunD K "of" "Tree.of" (defArgs s_t_of) (defBody s_t_of) (defScope s_t_of) [] [("arms", V.int 2)] A.f_t_of A.d_t_of
  F_t___len__ : Fun K "__len__" "Tree.__len__" s_t___len__ A.f_t___len__ A.d_t___len__
  D_t___len__ : Dn K A.C "__len__" A.f_t___len__
  F_t___contains__ : Fun K "__contains__" "Tree.__contains__" s_t___contains__ A.f_t___contains__ A.d_t___contains__
  D_t___contains__ : Dn K A.C "__contains__" A.f_t___contains__
  F_t___iter__ : Fun K "__iter__" "Tree.__iter__" s_t___iter__ A.f_t___iter__ A.d_t___iter__
  D_t___iter__ : Dn K A.C "__iter__" A.f_t___iter__
  F_t___getitem__ : Fun K "__getitem__" "Tree.__getitem__" s_t___getitem__ A.f_t___getitem__ A.d_t___getitem__
  D_t___getitem__ : Dn K A.C "__getitem__" A.f_t___getitem__
  F_t_parent : Fun K "parent" "Tree.parent" s_t_parent A.f_t_parent A.d_t_parent
  M_t_parent : Meth K A.C "parent" A.f_t_parent
  F_t_way_to : Fun K "way_to" "Tree.way_to" s_t_way_to A.f_t_way_to A.d_t_way_to
  M_t_way_to : Meth K A.C "way_to" A.f_t_way_to
  F_t_depth : Fun K "depth" "Tree.depth" s_t_depth A.f_t_depth A.d_t_depth
  M_t_depth : Meth K A.C "depth" A.f_t_depth
  F_t_subtree : Fun K "subtree" "Tree.subtree" s_t_subtree A.f_t_subtree A.d_t_subtree
  M_t_subtree : Meth K A.C "subtree" A.f_t_subtree
  F_faults : FunD K "faults" "faults" (defArgs s_faults) (defBody s_faults) (defScope s_faults) [] [("arms", V.int 2)] A.f_faults A.d_faults
  m_faults : mg "faults" = some (.ref A.f_faults)
  F_heap_of : Fun K "heap_of" "heap_of" s_heap_of A.f_heap_of A.d_heap_of
  m_heap_of : mg "heap_of" = some (.ref A.f_heap_of)
  F_different_heap_of : Fun K "different_heap_of" "different_heap_of" s_different_heap_of A.f_different_heap_of A.d_different_heap_of
  m_different_heap_of : mg "different_heap_of" = some (.ref A.f_different_heap_of)
  F_z___init__ : Fun K "__init__" "Sift.__init__" s_z___init__ A.f_z___init__ A.d_z___init__
  F_sift_down : FunD K "sift_down" "sift_down" (defArgs s_sift_down) (defBody s_sift_down) (defScope s_sift_down) [] [("arms", V.int 2)] A.f_sift_down A.d_sift_down
  m_sift_down : mg "sift_down" = some (.ref A.f_sift_down)
  L_least_child : ∃ (oc : Value) (od : Option Addr) (kV doc pm : Value) (an : Option Addr) (ct : Value) (osl : Array (Option Value)), A.d_least_child = PySem.W.fnOf "least_child" "least_child" (defArgs s_least_child) (defBody s_least_child) (defScope s_least_child) .none kV doc pm an (.ref A.c_least_child) ct ∧ K.lookup A.f_least_child = some ⟨oc, od, .func A.d_least_child, osl⟩ ∧ PySem.W.codeIn K (.ref A.c_least_child) "least_child" = true
  F_least_child : Fun K "least_child" "least_child" s_least_child A.f_least_child A.d_least_child
  m_least_child : mg "least_child" = some (.ref A.f_least_child)
  F_row_before : Fun K "row_before" "row_before" s_row_before A.f_row_before A.d_row_before
  m_row_before : mg "row_before" = some (.ref A.f_row_before)
  F_u___init__ : Fun K "__init__" "Built.__init__" s_u___init__ A.f_u___init__ A.d_u___init__
  F_build : FunD K "build" "build" (defArgs s_build) (defBody s_build) (defScope s_build) [] [("arms", V.int 2)] A.f_build A.d_build
  m_build : mg "build" = some (.ref A.f_build)
  F_code : FunD K "code" "code" (defArgs s_code) (defBody s_code) (defScope s_code) [] [("arms", V.int 2)] A.f_code A.d_code
  m_code : mg "code" = some (.ref A.f_code)
  F_decode : FunD K "decode" "decode" (defArgs s_decode) (defBody s_decode) (defScope s_decode) [] [("arms", V.int 2)] A.f_decode A.d_decode
  m_decode : mg "decode" = some (.ref A.f_decode)
  F_places_that_stop : Fun K "places_that_stop" "places_that_stop" s_places_that_stop A.f_places_that_stop A.d_places_that_stop
  m_places_that_stop : mg "places_that_stop" = some (.ref A.f_places_that_stop)
  F_check_stops : Fun K "check_stops" "check_stops" s_check_stops A.f_check_stops A.d_check_stops
  m_check_stops : mg "check_stops" = some (.ref A.f_check_stops)
  F_is_stop : Fun K "is_stop" "is_stop" s_is_stop A.f_is_stop A.d_is_stop
  m_is_stop : mg "is_stop" = some (.ref A.f_is_stop)
  F_row_with : Fun K "row_with" "row_with" s_row_with A.f_row_with A.d_row_with
  m_row_with : mg "row_with" = some (.ref A.f_row_with)
  F_way_down : Fun K "way_down" "way_down" s_way_down A.f_way_down A.d_way_down
  m_way_down : mg "way_down" = some (.ref A.f_way_down)
  F__law_number : Fun K "_law_number" "_law_number" s__law_number A.f__law_number A.d__law_number
  m__law_number : mg "_law_number" = some (.ref A.f__law_number)
  F__law_take : Fun K "_law_take" "_law_take" s__law_take A.f__law_take A.d__law_take
  m__law_take : mg "_law_take" = some (.ref A.f__law_take)
  F__law_pick : Fun K "_law_pick" "_law_pick" s__law_pick A.f__law_pick A.d__law_pick
  m__law_pick : mg "_law_pick" = some (.ref A.f__law_pick)
  F__law_parent : Fun K "_law_parent" "_law_parent" s__law_parent A.f__law_parent A.d__law_parent
  m__law_parent : mg "_law_parent" = some (.ref A.f__law_parent)
  F__law_children : Fun K "_law_children" "_law_children" s__law_children A.f__law_children A.d__law_children
  m__law_children : mg "_law_children" = some (.ref A.f__law_children)
  F__law_way : Fun K "_law_way" "_law_way" s__law_way A.f__law_way A.d__law_way
  m__law_way : mg "_law_way" = some (.ref A.f__law_way)
  F__law_subtree : Fun K "_law_subtree" "_law_subtree" s__law_subtree A.f__law_subtree A.d__law_subtree
  m__law_subtree : mg "_law_subtree" = some (.ref A.f__law_subtree)
  F__law_arms : Fun K "_law_arms" "_law_arms" s__law_arms A.f__law_arms A.d__law_arms
  m__law_arms : mg "_law_arms" = some (.ref A.f__law_arms)
  F__law_order : Fun K "_law_order" "_law_order" s__law_order A.f__law_order A.d__law_order
  m__law_order : mg "_law_order" = some (.ref A.f__law_order)
  F__law_heap : Fun K "_law_heap" "_law_heap" s__law_heap A.f__law_heap A.d__law_heap
  m__law_heap : mg "_law_heap" = some (.ref A.f__law_heap)
  F__law_down : Fun K "_law_down" "_law_down" s__law_down A.f__law_down A.d__law_down
  m__law_down : mg "_law_down" = some (.ref A.f__law_down)
  F__law_built : Fun K "_law_built" "_law_built" s__law_built A.f__law_built A.d__law_built
  m__law_built : mg "_law_built" = some (.ref A.f__law_built)
  F__law_unlike : Fun K "_law_unlike" "_law_unlike" s__law_unlike A.f__law_unlike A.d__law_unlike
  m__law_unlike : mg "_law_unlike" = some (.ref A.f__law_unlike)
  F__law_stops : Fun K "_law_stops" "_law_stops" s__law_stops A.f__law_stops A.d__law_stops
  m__law_stops : mg "_law_stops" = some (.ref A.f__law_stops)
  F_law : Fun K "law" "law" s_law A.f_law A.d_law
  m_law : mg "law" = some (.ref A.f_law)
  c_MOST_ARMS : mg "MOST_ARMS" = some (.int 4 0) ∨ ∃ t, mg "MOST_ARMS" = some (.int 4 t)
  c_MOST_PLACES : mg "MOST_PLACES" = some (.int 12 0) ∨ ∃ t, mg "MOST_PLACES" = some (.int 12 t)
  c_GREATEST_KEY : mg "GREATEST_KEY" = some (.int 1000000000 0) ∨ ∃ t, mg "GREATEST_KEY" = some (.int 1000000000 t)
  g_isinstance : mg "isinstance" = none
  g_int : mg "int" = none
  g_bool : mg "bool" = none
  g_len : mg "len" = none
  g_tuple : mg "tuple" = none
  g_list : mg "list" = none
  g_range : mg "range" = none
  g_enumerate : mg "enumerate" = none
  g_reversed : mg "reversed" = none
  g_min : mg "min" = none
  g_sum : mg "sum" = none
  g_iter : mg "iter" = none
  g_any : mg "any" = none
  g_all : mg "all" = none
  g_sorted : mg "sorted" = none
  g_zip : mg "zip" = none
  cT : Cls K A.C
  nMany : NoAttr K A.C "many"
  nArms : NoAttr K A.C "arms"
  nPl : NoAttr K A.C "_places"
  mC : mg "Tree" = some (.ref A.C)
  mkC : Mk K A.C A.f_t___init__
  cr : ClX.CRead K A.C (.type "type")
  cof : ClX.CMet K A.C (.type "type") "of" A.po A.f_t_of
  cTS : Cls K A.CS
  nRow : NoAttr K A.CS "row"
  nWay : NoAttr K A.CS "way"
  nLooks : NoAttr K A.CS "looks"
  mCS : mg "Sift" = some (.ref A.CS)
  mkCS : Mk K A.CS A.f_z___init__
  cTB : Cls K A.CB
  bRow : NoAttr K A.CB "row"
  bStops : NoAttr K A.CB "stops"
  bChanges : NoAttr K A.CB "changes"
  bLooks : NoAttr K A.CB "looks"
  mCB : mg "Built" = some (.ref A.CB)
  mkCB : Mk K A.CB A.f_u___init__
def TT (A : Ad) : List (Addr × Str) := [(A.P_least_child, ("least_child" : Str) ++ ".<locals>." ++ "<lambda>")]
section
variable {P : Program} {w : World} {K : PySem.W.Frag} {mg : Str → Option Value} {base : Heap} {A : Ad}
theorem cst {x : Str} {n : Int} (h : mg x = some (.int n 0) ∨ ∃ t, mg x = some (.int n t)) : ∃ t, mg x = some (.int n t) := h.elim (fun e => ⟨0, e⟩) id

/-- True just for ints -/
def spIs (K : PySem.W.Frag) : Sp := fun vs H Q _ => ∃ x : V, vs = [x] ∧
  ((∃ i, x = .int i ∧ Q (.bl true) H) ∨ (∃ n b1 b2, TyX K H x (.type n) ∧ kitB n "int" = some b1 ∧ kitB n "bool" = some b2 ∧ (b1 && !b2) = false ∧ Q (.bl false) H))
theorem ok_is (T : Tx K mg A) : FnOk P w K mg base CX0 1 A.f_is_integer A.d_is_integer ["thing"] (spIs K) := by
  refine T.F_is_integer.ok sc_is_integer (fun vs H Q E h => ?_) (fun cdv B outer s H vs Q E hr h => ?_)
  · obtain ⟨x, rfl, _⟩ := h
    rfl
  · obtain ⟨x, rfl, h⟩ := h
    refine ⟨_, pss_one (ps_ret (pe_and (pe_callB call_isi (by rfl) T.g_isinstance (by decide +kernel) (pa_cons (pv 0) (pa_cons (pe_bltn (v := .ty "int") (by rfl) T.g_int (by decide +kernel) rfl) pa_nil)))
      (pe_one (pe_not (pe_callB call_isi (by rfl) T.g_isinstance (by decide +kernel) (pa_cons (pv 0) (pa_cons (pe_bltn (v := .ty "bool") (by rfl) T.g_bool (by decide +kernel) rfl) pa_nil))))))), ?_⟩
    rcases h with ⟨i, rfl, q⟩ | ⟨n, b1, b2, ty, k1, k2, hb, q⟩
    · refine ⟨_, rfl, _, _, .type "int", .type "int", true, rfl, .ty "int", .base (.int i), kit_ty (by decide +kernel), true, rfl, iteT ?_⟩
      exact ⟨_, rfl, _, _, .type "int", .type "bool", false, rfl, .ty "bool", .base (.int i), kit_ty (by decide +kernel), false, rfl, q⟩
    · refine ⟨_, rfl, _, _, .type n, .type "int", b1, rfl, .ty "int", ty, kit_ty k1, b1, rfl, ?_⟩
      cases b1 with
      | false => exact iteF q
      | true =>
        cases b2 with
        | false => cases hb
        | true => exact iteT ⟨_, rfl, _, _, .type n, .type "bool", true, rfl, .ty "bool", ty, kit_ty k2, true, rfl, q⟩
theorem b_is (T : Tx K mg A) : L2.Binds K A.d_is_integer ["thing"] [] := T.F_is_integer.binds fun _ _ _ _ _ _ us hl => match us, hl with | [_], _ => rfl
/-- True just for ints within; other things by their class -/
def spII (K : PySem.W.Frag) : Sp := fun vs H Q _ => ∃ (x : V) (a b : Int), vs = [x, .int a, .int b] ∧
  ((∃ i, x = .int i ∧ Q (.bl (decide (a ≤ i ∧ i ≤ b))) H) ∨ (∃ n b1 b2, TyX K H x (.type n) ∧ kitB n "int" = some b1 ∧ kitB n "bool" = some b2 ∧ (b1 && !b2) = false ∧ Q (.bl false) H))
theorem ok_ii (T : Tx K mg A) : FnOk P w K mg base CX0 2 A.f_is_integer_from A.d_is_integer_from ["thing", "least", "greatest"] (spII K) := by
  refine T.F_is_integer_from.ok sc_is_integer_from (fun vs H Q E h => ?_) (fun cdv B outer s H vs Q E hr h => ?_)
  · obtain ⟨x, a, b, rfl, _⟩ := h
    rfl
  · obtain ⟨x, a, b, rfl, h⟩ := h
    refine ⟨_, pss_one (ps_ret (pe_and (pe_call (ok_is T) hr (by rfl) T.m_is_integer T.F_is_integer.kp (b_is T) .nil pass0 (pa_cons (pv 0) pa_nil))
        (pe_one (pe_chain op_le op_le (pv 1) (pv 0) (pv 2))))), ?_⟩
    rcases h with ⟨i, rfl, q⟩ | h
    · refine ⟨_, rfl, _, rfl, .inl ⟨i, rfl, true, rfl, iteT ?_⟩⟩
      refine ⟨_, rfl, _, rfl, _, _, rfl, rfl, _, rfl, ?_⟩
      by_cases h1 : a ≤ i
      · rw [decide_eq_true h1]
        refine iteT ⟨_, rfl, _, _, rfl, rfl, ?_⟩
        have e : decide (a ≤ i ∧ i ≤ b) = decide (i ≤ b) := by simp [h1]
        rw [e] at q
        exact q
      · rw [decide_eq_false h1]
        have e : decide (a ≤ i ∧ i ≤ b) = false := by simp [h1]
        rw [e] at q
        exact iteF q
    · obtain ⟨n, b1, b2, ty, k1, k2, hb, q⟩ := h
      exact ⟨_, rfl, _, rfl, .inr ⟨n, b1, b2, ty, k1, k2, hb, false, rfl, iteF q⟩⟩
theorem b_ii (T : Tx K mg A) : L2.Binds K A.d_is_integer_from ["thing", "least", "greatest"] [] := T.F_is_integer_from.binds fun _ _ _ _ _ _ us hl => match us, hl with | [_, _, _], _ => rfl

/-- is_key of an int -/
def spKey : Sp := fun vs H Q _ => ∃ i : Int, vs = [.int i] ∧ Q (.bl (decide (-1000000000 ≤ i ∧ i ≤ 1000000000))) H
theorem ok_key (T : Tx K mg A) : FnOk P w K mg base CX0 3 A.f_is_key A.d_is_key ["thing"] spKey := by
  refine T.F_is_key.ok sc_is_key (fun vs H Q E h => ?_) (fun cdv B outer s H vs Q E hr h => ?_)
  · obtain ⟨i, rfl, _⟩ := h
    rfl
  · obtain ⟨i, rfl, q⟩ := h
    obtain ⟨t, hg⟩ := cst T.c_GREATEST_KEY
    refine ⟨_, pss_one (ps_ret (pe_call (ok_ii T) hr (by rfl) T.m_is_integer_from T.F_is_integer_from.kp (b_ii T) .nil pass0
      (pa_cons (pv 0) (pa_cons (pe_un un_neg (pe_glob (by rfl) hg (relI _ _))) (pa_cons (pe_glob (by rfl) hg (relI _ _)) pa_nil))))), ?_⟩
    exact ⟨_, rfl, _, rfl, _, _, _, rfl, .inl ⟨i, rfl, q⟩⟩
theorem b_key (T : Tx K mg A) : L2.Binds K A.d_is_key ["thing"] [] := T.F_is_key.binds fun _ _ _ _ _ _ us hl => match us, hl with | [_], _ => rfl
def spCa : Sp := fun vs H Q _ => ∃ i : Int, vs = [.int i] ∧ (1 ≤ i ∧ i ≤ 4) ∧ Q .non H
theorem ok_ca (T : Tx K mg A) : FnOk P w K mg base CX0 3 A.f_check_arms A.d_check_arms ["arms"] spCa := by
  refine T.F_check_arms.ok sc_check_arms (fun vs H Q E h => ?_) (fun cdv B outer s H vs Q E hr h => ?_)
  · obtain ⟨i, rfl, _⟩ := h
    rfl
  · obtain ⟨i, rfl, hi, q⟩ := h
    obtain ⟨t, hg⟩ := cst T.c_MOST_ARMS
    refine ⟨_, pss_one (ps_if (pt_not (pt_val (pe_call (ok_ii T) hr (by rfl) T.m_is_integer_from T.F_is_integer_from.kp (b_ii T) .nil pass0
      (pa_cons (pv 0) (pa_cons pe_int (pa_cons (pe_glob (by rfl) hg (relI _ _)) pa_nil)))))) (pss_one ps_never) pss_nil), ?_⟩
    refine ⟨_, rfl, _, _, _, rfl, .inl ⟨i, rfl, _, rfl, ?_⟩⟩
    rw [decide_eq_true hi]
    exact iteF q
theorem b_ca (T : Tx K mg A) : L2.Binds K A.d_check_arms ["arms"] [] := T.F_check_arms.binds fun _ _ _ _ _ _ us hl => match us, hl with | [_], _ => rfl
def spCm : Sp := fun vs H Q _ => ∃ i : Int, vs = [.int i] ∧ (0 ≤ i ∧ i ≤ 12) ∧ Q .non H
theorem ok_cm (T : Tx K mg A) : FnOk P w K mg base CX0 3 A.f_check_many A.d_check_many ["many"] spCm := by
  refine T.F_check_many.ok sc_check_many (fun vs H Q E h => ?_) (fun cdv B outer s H vs Q E hr h => ?_)
  · obtain ⟨i, rfl, _⟩ := h
    rfl
  · obtain ⟨i, rfl, hi, q⟩ := h
    obtain ⟨t, hg⟩ := cst T.c_MOST_PLACES
    refine ⟨_, pss_one (ps_if (pt_not (pt_val (pe_call (ok_ii T) hr (by rfl) T.m_is_integer_from T.F_is_integer_from.kp (b_ii T) .nil pass0
      (pa_cons (pv 0) (pa_cons pe_int (pa_cons (pe_glob (by rfl) hg (relI _ _)) pa_nil)))))) (pss_one ps_never) pss_nil), ?_⟩
    refine ⟨_, rfl, _, _, _, rfl, .inl ⟨i, rfl, _, rfl, ?_⟩⟩
    rw [decide_eq_true hi]
    exact iteF q
theorem b_cm (T : Tx K mg A) : L2.Binds K A.d_check_many ["many"] [] := T.F_check_many.binds fun _ _ _ _ _ _ us hl => match us, hl with | [_], _ => rfl
def spCp : Sp := fun vs H Q _ => ∃ i n : Int, vs = [.int i, .int n] ∧ (0 ≤ i ∧ i < n) ∧ Q .non H
theorem ok_cp (T : Tx K mg A) : FnOk P w K mg base CX0 3 A.f_check_place A.d_check_place ["place", "many"] spCp := by
  refine T.F_check_place.ok sc_check_place (fun vs H Q E h => ?_) (fun cdv B outer s H vs Q E hr h => ?_)
  · obtain ⟨i, n, rfl, _⟩ := h
    rfl
  · obtain ⟨i, n, rfl, hi, q⟩ := h
    refine ⟨_, pss_one (ps_if (pt_not (pt_val (pe_call (ok_ii T) hr (by rfl) T.m_is_integer_from T.F_is_integer_from.kp (b_ii T) .nil pass0
      (pa_cons (pv 0) (pa_cons pe_int (pa_cons (pe_op op_sub (pv 1) pe_int) pa_nil)))))) (pss_one ps_never) pss_nil), ?_⟩
    refine ⟨_, rfl, _, rfl, _, _, rfl, rfl, _, _, _, rfl, .inl ⟨i, rfl, _, rfl, ?_⟩⟩
    rw [decide_eq_true (show 0 ≤ i ∧ i ≤ n - 1 by omega)]
    exact iteF q
theorem b_cp (T : Tx K mg A) : L2.Binds K A.d_check_place ["place", "many"] [] := T.F_check_place.binds fun _ _ _ _ _ _ us hl => match us, hl with | [_, _], _ => rfl
/-- a list or a tuple -/
def Sq (H : Hp) (a : Addr) (xs : List V) : Prop := H a = some (.lst xs) ∨ H a = some (.tup xs)
theorem Sq.same {H H' : Hp} {a : Addr} {xs : List V} (h : Sq H a xs) (s : Same H H') : Sq H' a xs := h.elim (fun e => .inl (s _ _ e)) fun e => .inr (s _ _ e)
theorem Sq.len {K : PySem.W.Frag} {H : Hp} {a : Addr} {xs : List V} (h : Sq H a xs) : SqL K H a xs ∨ SqT K H a xs := h.elim (fun e => .inl (SqL.of e)) fun e => .inr (SqT.of e)
/-- keys go in, a tuple of them comes out -/
def spRow (K : PySem.W.Frag) : Sp := fun vs H Q _ => ∃ (a : Addr) (ns : List Int), vs = [.ref a] ∧ Sq H a (ns.map V.int) ∧ ns.length ≤ 12 ∧ (∀ n ∈ ns, -1000000000 ≤ n ∧ n ≤ 1000000000) ∧
  ∀ H' p, Same H H' → H' p = some (.tup (ns.map V.int)) → Q (.ref p) H'
theorem ok_row (T : Tx K mg A) : FnOk P w K mg base CX0 4 A.f_row_of A.d_row_of ["row"] (spRow K) := by
  refine T.F_row_of.ok sc_row_of (fun vs H Q E h => ?_) (fun cdv B outer s H vs Q E hr h => ?_)
  · obtain ⟨a, ns, rfl, _⟩ := h
    rfl
  · obtain ⟨a, ns, rfl, ha, hl, hk, q⟩ := h
    obtain ⟨t, hg⟩ := cst T.c_MOST_PLACES
    refine ⟨_, pss_cons (ps_if (PW.pt (pw_or (pt_not (pt_val (pe_callB call_isiT (by rfl) T.g_isinstance (by decide +kernel) (pa_cons (pv 0) (pa_cons (pe_tup (pa_cons (pe_bltn (v := .ty "list") (by rfl) T.g_list (by decide +kernel) rfl) (pa_cons (pe_bltn (v := .ty "tuple") (by rfl) T.g_tuple (by decide +kernel) rfl) pa_nil))) pa_nil)))))
        (pw_or1 (pt_cmpR op_gt (pe_callB call_len_seq (by rfl) T.g_len PySem.boot_len (pa_cons (pv 0) pa_nil)) (pe_glob (by rfl) hg (relI _ _)) (nomark _))))) (pss_one ps_never) pss_nil)
      (C8.pss_cut (ps_for PassesOwn.never rfl (pi_enS (by rfl) T.g_enumerate (pa_cons (pv 0) pa_nil)) (pg_tup rfl (pgs_cons (pg_name (i := 1) sc_row_of.nd rfl (Or.inl rfl)) (pgs_cons (pg_name (i := 2) sc_row_of.nd rfl (Or.inl rfl)) pgs_nil)))
        (pss_one (ps_if (pt_not (pt_val (pe_call (ok_key T) hr (by rfl) T.m_is_key T.F_is_key.kp (b_key T) .nil pass0 (pa_cons (pv 2) pa_nil)))) (pss_one ps_never) pss_nil)))
      (pss_one (ps_ret (pe_callTy call_tuple_of (by rfl) T.g_tuple (by decide +kernel) (pa_cons (pv 0) pa_nil))))), ?_⟩
    refine ⟨_, rfl, by show 2 ≤ sizeLine; decide, fun tp htp => ?_⟩
    have ha1 : Sq (upd H tp (.tup [.ty "list", .ty "tuple"])) a (ns.map V.int) := ha.same (Same.up htp)
    have isi : ∃ c b1, TyX K (upd H tp (.tup [.ty "list", .ty "tuple"])) (.ref a) (.type c) ∧ PySem.W.kitOne K (.type c) (.type "list") = some b1 ∧ (b1 = false → PySem.W.kitOne K (.type c) (.type "tuple") = some true) := by
      rcases ha1 with h | h
      · exact ⟨"list", true, .base (.lst h), kit_ty (by decide +kernel), fun z => by cases z⟩
      · exact ⟨"tuple", false, .base (.tup h), kit_ty (by decide +kernel), fun _ => kit_ty (by decide +kernel)⟩
    obtain ⟨c, b1, ty, k1, k2⟩ := isi
    refine ⟨_, tp, _, .type c, [.type "list", .type "tuple"], true, rfl, upd_same, .cons (.ty _) (.cons (.ty _) .nil), ty, kitAny_cons k1 (fun z => kitAny_cons (k2 z) (fun z => by cases z) (fun _ => rfl)) (fun _ => rfl), true, rfl, ?_⟩
    refine iteF ⟨_, rfl, a, _, rfl, ha1.len, _, _, rfl, rfl, _, rfl, ite2 (fun z => ?_) (fun _ => ?_)⟩
    · exfalso
      rw [List.length_map] at z
      have := of_decide_eq_true z
      omega
    refine ⟨fun σ H' => ∃ z y, σ = [some (.ref a), z, y] ∧ Same H H', ?_, ?_⟩
    · rcases ha with ha | ha
      · refine ⟨_, rfl, a, _, rfl, .inl ⟨SqL.of ((Same.up htp) _ _ ha), for_it (walk_enum (xs := ns.map V.int)) (fun i σ H' => ∃ z y, σ = [some (.ref a), z, y] ∧ Same H H') ⟨none, none, rfl, Same.up htp⟩ (fun i σ H' _ ⟨_, _, _, s⟩ => SqL.of (s _ _ ha)) ?_ ?_⟩⟩
        · rintro i v σ H2 H3 hi ⟨z, y, rfl, s⟩ ⟨T', x, x2, rfl, hT, rfl, e1, e2⟩
          obtain ⟨hi', rfl⟩ := ints_at e2
          cases e1
          refine ⟨_, _, rfl, SqT.of upd_same, rfl, _, _, rfl, _, _, rfl, rfl, ?_⟩
          refine ⟨_, rfl, _, rfl, _, rfl, ?_⟩
          rw [decide_eq_true (hk _ (List.getElem_mem hi'))]
          exact iteF ⟨_, _, rfl, s.trans (Same.up hT)⟩
        · rintro σ H2 ⟨z, y, rfl, s⟩
          exact ⟨_, _, rfl, s⟩
      · refine ⟨_, rfl, a, _, rfl, .inr ⟨SqT.of ((Same.up htp) _ _ ha), for_it (walk_enumT (xs := ns.map V.int)) (fun i σ H' => ∃ z y, σ = [some (.ref a), z, y] ∧ Same H H') ⟨none, none, rfl, Same.up htp⟩ (fun i σ H' _ ⟨_, _, _, s⟩ => SqT.of (s _ _ ha)) ?_ ?_⟩⟩
        · rintro i v σ H2 H3 hi ⟨z, y, rfl, s⟩ ⟨T', x, x2, rfl, hT, rfl, e1, e2⟩
          obtain ⟨hi', rfl⟩ := ints_at e2
          cases e1
          refine ⟨_, _, rfl, SqT.of upd_same, rfl, _, _, rfl, _, _, rfl, rfl, ?_⟩
          refine ⟨_, rfl, _, rfl, _, rfl, ?_⟩
          rw [decide_eq_true (hk _ (List.getElem_mem hi'))]
          exact iteF ⟨_, _, rfl, s.trans (Same.up hT)⟩
        · rintro σ H2 ⟨z, y, rfl, s⟩
          exact ⟨_, _, rfl, s⟩
    · rintro σ H2 ⟨z, y, rfl, s⟩
      rcases ha with ha | ha
      · exact ⟨_, rfl, a, _, rfl, .inl ⟨SqL.of (s _ _ ha), fun p hp => q _ _ (s.trans (Same.up hp)) upd_same⟩⟩
      · exact ⟨_, rfl, a, _, rfl, .inr ⟨SqT.of (s _ _ ha), q _ _ s (s _ _ ha)⟩⟩
theorem b_row (T : Tx K mg A) : L2.Binds K A.d_row_of ["row"] [] := T.F_row_of.binds fun _ _ _ _ _ _ us hl => match us, hl with | [_], _ => rfl

end

end Tw

set_option Elab.async false
set_option linter.all false
set_option maxRecDepth 100000
set_option maxHeartbeats 2000000
namespace Tw
open PySem PySem.Spec PyProof.Rows L2
section
variable {P : Program} {w : World} {K : PySem.W.Frag} {mg : Str → Option Value} {base : Heap} {A : Ad}
/-! the tree -/
/-- the places of a tree -/
def pl (n : Nat) : List V := (List.range n).map fun i => V.int (i : Nat)
theorem rg_pl (n : Nat) : rgV 0 (n : Int) = pl n := by
  unfold rgV pl
  rw [show ((n : Int) - 0).toNat = n by omega]
  exact congrArg (fun f => (List.range n).map f) (funext fun i => by rw [Int.zero_add])
theorem n1 : ¬ (("many" : Str) = "arms") := by decide +kernel
theorem n2 : ¬ (("many" : Str) = "_places") := by decide +kernel
theorem n3 : ¬ (("arms" : Str) = "_places") := by decide +kernel
/-- its attributes -/
def tf (n w t : Nat) : List (Str × V) := putF "_places" (.ref t) (putF "arms" (.int w) (putF "many" (.int n) []))
theorem tf_eq (n w t : Nat) : tf n w t = ([("many", V.int n), ("arms", V.int w), ("_places", V.ref t)] : List (Str × V)) := by
  unfold tf
  simp only [putF, n1, n2, n3, if_false]
theorem tf_many (n w t : Nat) : (tf n w t).lookup ("many" : Str) = some (.int n) := by
  unfold tf
  rw [lookup_putF, if_neg n2, lookup_putF, if_neg n1, lookup_putF, if_pos rfl]
theorem tf_arms (n w t : Nat) : (tf n w t).lookup ("arms" : Str) = some (.int w) := by
  unfold tf
  rw [lookup_putF, if_neg n3, lookup_putF, if_pos rfl]
theorem tf_pl (n w t : Nat) : (tf n w t).lookup ("_places" : Str) = some (.ref t) := by
  unfold tf
  rw [lookup_putF, if_pos rfl]
theorem tf_no (n w t : Nat) {m : Str} (h1 : ¬ m = "many") (h2 : ¬ m = "arms") (h3 : ¬ m = "_places") : (tf n w t).lookup m = none := by
  unfold tf
  rw [lookup_putF, if_neg h3, lookup_putF, if_neg h2, lookup_putF, if_neg h1]
  rfl
/-- a tree of n places and w arms stands at p -/
structure TreeAt (C : Addr) (H : Hp) (p n w : Nat) : Prop where
  ob : ∃ dx t, H p = some (.ins C dx (tf n w t)) ∧ H t = some (.tup (pl n))
  hn : n ≤ 12
  hw : 1 ≤ w ∧ w ≤ 4
theorem TreeAt.same {C : Addr} {H H' : Hp} {p n w : Nat} (h : TreeAt C H p n w) (s : Same H H') : TreeAt C H' p n w :=
  ⟨let ⟨dx, t, a, b⟩ := h.ob; ⟨dx, t, s _ _ a, s _ _ b⟩, h.hn, h.hw⟩

def spInit (C : Addr) : Sp := fun vs H Q _ => ∃ (p dx n w : Nat), vs = [.ref p, .int n, .int w] ∧ n ≤ 12 ∧ (1 ≤ w ∧ w ≤ 4) ∧ H p = some (.ins C dx []) ∧
  ∀ (H' : Hp), (∀ b o, H b = some o → b ≠ p → H' b = some o) → TreeAt C H' p n w → Q .non H'
theorem ok_init (T : Tx K mg A) : FnOk P w K mg base CX0 4 A.f_t___init__ A.d_t___init__ ["self", "many", "arms"] (spInit A.C) := by
  refine T.F_t___init__.ok sc_t___init__ (fun vs H Q E h => ?_) (fun cdv B outer s H vs Q E hr h => ?_)
  · obtain ⟨p, dx, n, w, rfl, _⟩ := h
    rfl
  · obtain ⟨p, dx, n, w, rfl, hn, hw, hp, q⟩ := h
    refine ⟨_, PSs.nox (pss_cons (ps_expr (pe_call (ok_ca T) hr (by rfl) T.m_check_arms T.F_check_arms.kp (b_ca T) .nil pass0 (pa_cons (pv 2) pa_nil)))
      (pss_cons (ps_expr (pe_call (ok_cm T) hr (by rfl) T.m_check_many T.F_check_many.kp (b_cm T) .nil pass0 (pa_cons (pv 1) pa_nil)))
      (pss_cons (ps_fld (pv 0) (pv 1) rfl) (pss_cons (ps_fld (pv 0) (pv 2) rfl)
      (pss_one (ps_fld (pv 0) (pe_tupRg rfl (by rfl) T.g_tuple (prg_1 (by rfl) T.g_range (pv 1))) rfl)))))), ?_⟩
    refine ⟨_, rfl, _, rfl, ⟨by omega, by omega⟩, _, rfl, _, rfl, ⟨by omega, by omega⟩, ?_⟩
    refine ⟨_, rfl, _, rfl, p, A.C, dx, _, rfl, hp, T.cT, T.nMany, (by show 0 < 1000; decide), ?_⟩
    refine ⟨_, rfl, _, rfl, p, A.C, dx, _, rfl, upd_same, T.cT, T.nArms, (by show 1 < 1000; decide), ?_⟩
    refine ⟨_, rfl, _, rfl, RgOk.of_le (by omega) (by omega) (by omega) (by omega), fun t ht => ?_⟩
    have npt : p ≠ t := fun z => by
      rw [z, upd_same] at ht
      cases ht
    refine ⟨_, rfl, p, A.C, dx, _, rfl, Eq.trans (upd_ne npt) upd_same, T.cT, T.nPl, (by simp only [putF, n1, if_false]; show 2 < 1000; decide), ?_⟩
    refine q _ (fun b o e hb => ?_) ⟨⟨dx, t, upd_same, ?_⟩, hn, hw⟩
    · have nbt : b ≠ t := ne_of_none (by rw [upd_ne hb, upd_ne hb]; exact e) ht
      rw [upd_ne hb, upd_ne nbt, upd_ne hb, upd_ne hb]
      exact e
    · rw [upd_ne npt.symm, upd_same, rg_pl]

theorem kb_init (T : Tx K mg A) : ∃ mv : List Value, KBn K A.d_t___init__ ["self", "many", "arms"] 2 ["arms"] (fun us ws => us ++ (mv ++ ws)) (fun vs zs => vs ++ zs) := by
  obtain ⟨mv, h⟩ := T.F_t___init__.kbinds0 (ps := ["self", "many", "arms"]) 2 ["arms"] [] (fun us mv ws => us ++ (mv ++ ws)) (by simp) (by simp) (fun r1 r2 r3 => r1.append (r2.append r3))
    (fun D doc pm an cdv ct us mv ws h1 h2 h3 => by
      match us, mv, ws, h1, h2, h3 with
      | [a, b], [], [c], _, _, _ => rfl)
  exact ⟨mv, h⟩
theorem bd_init (T : Tx K mg A) : ∃ ds, Vals [V.int 2] ds ∧ L2.Binds K A.d_t___init__ ["self", "many", "arms"] ds := by
  refine T.F_t___init__.binds0 2 (by simp) rfl (fun D doc pm an cdv ct us ks h1 h2 => ?_)
  match us, ks, h1, h2 with
  | [a, b], [c], _, _ => exact ⟨_, _, _, _, _, _, rfl, rfl, rfl⟩
def spOf (K : PySem.W.Frag) (C : Addr) : Sp := fun vs H Q _ => ∃ (a w : Nat) (ns : List Int), vs = [.ref C, .ref a, .int w] ∧ (1 ≤ w ∧ w ≤ 4) ∧ Sq H a (ns.map V.int) ∧ ns.length ≤ 12 ∧ (∀ n ∈ ns, -1000000000 ≤ n ∧ n ≤ 1000000000) ∧
  ∀ (H' : Hp) p, Same H H' → H p = none → TreeAt C H' p ns.length w → Q (.ref p) H'
theorem ok_of (T : Tx K mg A) : FnOk P w K mg base CX0 6 A.f_t_of A.d_t_of ["cls", "row", "arms"] (spOf K A.C) := by
  obtain ⟨mv, kb⟩ := kb_init T
  refine T.F_t_of.ok sc_t_of (fun vs H Q E h => ?_) (fun cdv B outer s H vs Q E hr h => ?_)
  · obtain ⟨a, w, ns, rfl, _⟩ := h
    rfl
  · obtain ⟨a, w, ns, rfl, hw, ha, hl, hk, q⟩ := h
    refine ⟨_, PSs.nox (pss_cons (ps_expr (pe_call (ok_ca T) (hr.mono (by decide)) (by rfl) T.m_check_arms T.F_check_arms.kp (b_ca T) .nil pass0 (pa_cons (pv 2) pa_nil)))
      (pss_one (ps_ret (pe_makeLK (i := 0) T.mkC (ok_init T) hr kb pass0 (pa_cons (pe_callB call_len_seq (by rfl) T.g_len PySem.boot_len (pa_cons (pe_call (ok_row T) (hr.mono (by decide)) (by rfl) T.m_row_of T.F_row_of.kp (b_row T) .nil pass0 (pa_cons (pv 1) pa_nil)) pa_nil)) pa_nil)
        (pk_cons (pv 2) pk_nil) rfl (Or.inl rfl))))), ?_⟩
    refine ⟨_, rfl, _, rfl, ⟨by omega, by omega⟩, rfl, _, rfl, a, ns, rfl, ha, hl, hk, fun H1 p s1 hp => ?_⟩
    refine ⟨p, _, rfl, .inr (SqT.of hp), _, rfl, rfl, rfl, fun x dx nx ndx nex => ?_⟩
    refine ⟨x, dx, ns.length, w, by rw [List.length_map]; rfl, hl, hw, upd_same, fun H2 k2 t2 => ⟨rfl, q H2 x (fun b o e => k2 b o ?_ (ne_of_none (s1 _ _ e) nx)) (s1.free nx) t2⟩⟩
    rw [upd_ne (ne_of_none (s1 _ _ e) nx), upd_ne (ne_of_none (s1 _ _ e) ndx)]
    exact s1 _ _ e


theorem bnd {k : Nat} {v : V} {x qual : Str} {st : Stmt} {f : Addr} {fd : FuncData} {ps : List Str} (F : Fun K x qual st f fd) (h : ∀ (kV doc pm : Value) (an : Option Addr) (cdv ct : Value) (us : List Value), us.length = ps.length → bindArgs (PySem.W.fnOf x qual (defArgs st) (defBody st) (defScope st) .none kV doc pm an cdv ct) ⟨us, []⟩ = pure (ps.zip us)) : L2.Binds K fd ps [] := F.binds h
theorem b_len (T : Tx K mg A) : L2.Binds K A.d_t___len__ ["self"] [] := T.F_t___len__.binds fun _ _ _ _ _ _ us hl => match us, hl with | [_], _ => rfl
theorem b_cont (T : Tx K mg A) : L2.Binds K A.d_t___contains__ ["self", "thing"] [] := T.F_t___contains__.binds fun _ _ _ _ _ _ us hl => match us, hl with | [_, _], _ => rfl
theorem b_iter (T : Tx K mg A) : L2.Binds K A.d_t___iter__ ["self"] [] := T.F_t___iter__.binds fun _ _ _ _ _ _ us hl => match us, hl with | [_], _ => rfl
theorem b_gi (T : Tx K mg A) : L2.Binds K A.d_t___getitem__ ["self", "place"] [] := T.F_t___getitem__.binds fun _ _ _ _ _ _ us hl => match us, hl with | [_, _], _ => rfl
theorem b_par (T : Tx K mg A) : L2.Binds K A.d_t_parent ["self", "place"] [] := T.F_t_parent.binds fun _ _ _ _ _ _ us hl => match us, hl with | [_, _], _ => rfl
theorem b_way (T : Tx K mg A) : L2.Binds K A.d_t_way_to ["self", "place"] [] := T.F_t_way_to.binds fun _ _ _ _ _ _ us hl => match us, hl with | [_, _], _ => rfl
theorem b_dep (T : Tx K mg A) : L2.Binds K A.d_t_depth ["self", "place"] [] := T.F_t_depth.binds fun _ _ _ _ _ _ us hl => match us, hl with | [_, _], _ => rfl
theorem b_sub (T : Tx K mg A) : L2.Binds K A.d_t_subtree ["self", "place"] [] := T.F_t_subtree.binds fun _ _ _ _ _ _ us hl => match us, hl with | [_, _], _ => rfl

theorem pl_len (n : Nat) : (pl n).length = n := by unfold pl; rw [List.length_map, List.length_range]
def spLen (C : Addr) : Sp := fun vs H Q _ => ∃ (p n w : Nat), vs = [.ref p] ∧ TreeAt C H p n w ∧ Q (.int n) H
theorem ok_len (T : Tx K mg A) : FnOk P w K mg base CX0 2 A.f_t___len__ A.d_t___len__ ["self"] (spLen A.C) := by
  refine T.F_t___len__.ok sc_t___len__ (fun vs H Q E h => ?_) (fun cdv B outer s H vs Q E hr h => ?_)
  · obtain ⟨p, n, w, rfl, _⟩ := h
    rfl
  · obtain ⟨p, n, w, rfl, t, q⟩ := h
    obtain ⟨dx, l, h1, h2⟩ := t.ob
    refine ⟨_, pss_one (ps_ret (pe_callB call_len_seq (by rfl) T.g_len PySem.boot_len (pa_cons (pe_fld (pv 0) rfl) pa_nil))), ?_⟩
    refine ⟨_, rfl, p, A.C, dx, _, _, rfl, h1, T.cT, T.nPl, tf_pl _ _ _, l, _, rfl, .inr (SqT.of h2), ?_⟩
    rw [pl_len]
    exact q
/-- thing in tree -/
def spCont (K : PySem.W.Frag) (C : Addr) : Sp := fun vs H Q _ => ∃ (p n w : Nat) (x : V), vs = [.ref p, x] ∧ TreeAt C H p n w ∧
  ((∃ i : Int, x = .int i ∧ Q (.bl (decide (0 ≤ i ∧ i ≤ (n : Int) - 1))) H) ∨ (∃ c b1 b2, TyX K H x (.type c) ∧ kitB c "int" = some b1 ∧ kitB c "bool" = some b2 ∧ (b1 && !b2) = false ∧ Q (.bl false) H))
theorem ok_cont (T : Tx K mg A) : FnOk P w K mg base CX0 3 A.f_t___contains__ A.d_t___contains__ ["self", "thing"] (spCont K A.C) := by
  refine T.F_t___contains__.ok sc_t___contains__ (fun vs H Q E h => ?_) (fun cdv B outer s H vs Q E hr h => ?_)
  · obtain ⟨p, n, w, x, rfl, _⟩ := h
    rfl
  · obtain ⟨p, n, w, x, rfl, t, q⟩ := h
    obtain ⟨dx, l, h1, h2⟩ := t.ob
    refine ⟨_, pss_one (ps_ret (pe_call (ok_ii T) hr (by rfl) T.m_is_integer_from T.F_is_integer_from.kp (b_ii T) .nil pass0 (pa_cons (pv 1) (pa_cons pe_int (pa_cons (pe_op op_sub (pe_fld (pv 0) rfl) pe_int) pa_nil))))), ?_⟩
    exact ⟨_, rfl, _, rfl, p, A.C, dx, _, _, rfl, h1, T.cT, T.nMany, tf_many _ _ _, _, _, rfl, rfl, _, _, _, rfl, q⟩
theorem ok_iter (T : Tx K mg A) : FnIt P w K mg base 2 A.f_t___iter__ A.d_t___iter__ ["self"] (spIter K A.C "_places") := by
  refine fnIt_of T.F_t___iter__ sc_t___iter__ (fun cdv B outer s H vs Q hr h => ?_)
  obtain ⟨a, dx, fs, t, zs, rfl, ha, hf, ht, q⟩ := h
  refine ⟨_, pss_one (ps_ret (pe_callB call_iterT (by rfl) T.g_iter (by decide +kernel) (pa_cons (pe_fld (pv 0) rfl) pa_nil))), ?_⟩
  exact ⟨_, rfl, a, A.C, dx, _, _, rfl, ha, T.cT, T.nPl, hf, t, zs, rfl, ht, q⟩
/-- the children of a place, as the program cuts them -/
def kids (n w i : Nat) : List V := cutV (pl n) (some ((i : Int) * (w : Int) + 1)) (some ((i : Int) * (w : Int) + 1 + (w : Int)))
def spGi (C : Addr) : Sp := fun vs H Q _ => ∃ (p n w i : Nat), vs = [.ref p, .int i] ∧ TreeAt C H p n w ∧ i < n ∧ ∀ H' q, Same H H' → H' q = some (.tup (kids n w i)) → Q (.ref q) H'
theorem ok_gi (T : Tx K mg A) : FnOk P w K mg base CX0 4 A.f_t___getitem__ A.d_t___getitem__ ["self", "place"] (spGi A.C) := by
  refine T.F_t___getitem__.ok sc_t___getitem__ (fun vs H Q E h => ?_) (fun cdv B outer s H vs Q E hr h => ?_)
  · obtain ⟨p, n, w, i, rfl, _⟩ := h
    rfl
  · obtain ⟨p, n, w, i, rfl, t, hi, q⟩ := h
    obtain ⟨dx, l, h1, h2⟩ := t.ob
    refine ⟨_, pss_cons (ps_expr (pe_call (ok_cp T) hr (by rfl) T.m_check_place T.F_check_place.kp (b_cp T) .nil pass0 (pa_cons (pv 1) (pa_cons (pe_fld (pv 0) rfl) pa_nil))))
      (pss_cons (ps_set (i := 2) sc_t___getitem__.nd rfl (Or.inl rfl) (pe_op op_add (pe_op op_mul (pv 1) (pe_fld (pv 0) rfl)) pe_int))
      (pss_one (ps_ret (pe_slice sl_tup (pe_fld (pv 0) rfl) (po_some (pv 2)) (po_some (pe_op op_add (pv 2) (pe_fld (pv 0) rfl))))))), ?_⟩
    refine ⟨_, rfl, _, rfl, p, A.C, dx, _, _, rfl, h1, T.cT, T.nMany, tf_many _ _ _, _, _, rfl, ⟨by omega, by omega⟩, ?_⟩
    refine ⟨_, rfl, _, rfl, p, A.C, dx, _, _, rfl, h1, T.cT, T.nArms, tf_arms _ _ _, _, _, rfl, rfl, .inl ⟨by have := t.hn; omega, by have := t.hn; omega⟩, _, _, rfl, rfl, ?_⟩
    refine ⟨_, rfl, p, A.C, dx, _, _, rfl, h1, T.cT, T.nPl, tf_pl _ _ _, ?_⟩
    refine ⟨_, rfl, _, rfl, _, rfl, _, rfl, p, A.C, dx, _, _, rfl, h1, T.cT, T.nArms, tf_arms _ _ _, _, _, rfl, rfl, _, rfl, ?_⟩
    refine ⟨l, pl n, rfl, SqT.of h2, fun z => ?_, fun r hr0 => q _ r (Same.up hr0) upd_same⟩
    have z1 := z.1
    rw [pl_len, show ((i : Int) * (w : Int) + 1) = ((i * w + 1 : Nat) : Int) by push_cast; rfl, HT.sIx_nat] at z1
    omega

end
end Tw

set_option Elab.async false
set_option linter.all false
set_option maxRecDepth 100000
set_option maxHeartbeats 2000000
namespace Tw
open PySem PySem.Spec PyProof.Rows L2
section
variable {P : Program} {w : World} {K : PySem.W.Frag} {mg : Str → Option Value} {base : Heap} {A : Ad}

/-! ways -/
def upF : Nat → Nat → Nat → List Nat
  | 0, _, p => [p]
  | k + 1, w, p => if p = 0 then [0] else p :: upF k w ((p - 1) / w)
def upL (w p : Nat) : List Nat := upF 13 w p
def wayL (w p : Nat) : List Nat := (upL w p).reverse
def vi (l : List Nat) : List V := l.map fun i => V.int (i : Nat)
theorem up_eq : ∀ w, w < 5 → ∀ p, p < 13 → 1 ≤ w → upL w p = if p = 0 then [0] else p :: upL w ((p - 1) / w) := by decide +kernel
theorem up_len : ∀ w, w < 5 → ∀ p, p < 13 → 1 ≤ w → (upL w p).length ≤ 13 := by decide +kernel
theorem vi_len (l : List Nat) : (vi l).length = l.length := by unfold vi; rw [List.length_map]
theorem vi_app (a b : List Nat) : vi (a ++ b) = vi a ++ vi b := by unfold vi; rw [List.map_append]
theorem vi_rev (a : List Nat) : (vi a).reverse = vi a.reverse := by unfold vi; rw [List.map_reverse]
/-- the parent as the program says it -/
def parV (w p : Nat) : V := if p = 0 then .non else .int ((p - 1) / w : Nat)
def spPar (C : Addr) : Sp := fun vs H Q _ => ∃ (p n w i : Nat), vs = [.ref p, .int i] ∧ TreeAt C H p n w ∧ i < n ∧ Q (parV w i) H
theorem ok_par (T : Tx K mg A) : FnOk P w K mg base CX0 4 A.f_t_parent A.d_t_parent ["self", "place"] (spPar A.C) := by
  refine T.F_t_parent.ok sc_t_parent (fun vs H Q E h => ?_) (fun cdv B outer s H vs Q E hr h => ?_)
  · obtain ⟨p, n, w, i, rfl, _⟩ := h
    rfl
  · obtain ⟨p, n, w, i, rfl, t, hi, q⟩ := h
    obtain ⟨dx, l, h1, h2⟩ := t.ob
    refine ⟨_, pss_cons (ps_expr (pe_call (ok_cp T) hr (by rfl) T.m_check_place T.F_check_place.kp (b_cp T) .nil pass0 (pa_cons (pv 1) (pa_cons (pe_fld (pv 0) rfl) pa_nil))))
      (pss_cons (ps_if (pt_cmpR op_eq (pv 1) pe_int (nomark _)) (pss_one (ps_ret pe_non)) pss_nil)
      (pss_one (ps_ret (pe_op op_fdivN (pe_op op_sub (pv 1) pe_int) (pe_fld (pv 0) rfl))))), ?_⟩
    refine ⟨_, rfl, _, rfl, p, A.C, dx, _, _, rfl, h1, T.cT, T.nMany, tf_many _ _ _, _, _, rfl, ⟨by omega, by omega⟩, ?_⟩
    refine ⟨_, rfl, rfl, _, rfl, ?_⟩
    by_cases h0 : i = 0
    · rw [decide_eq_true (show V.int (i : Nat) = V.int 0 by rw [h0]; rfl)]
      refine iteT ?_
      unfold parV at q
      rw [if_pos h0] at q
      exact q
    · rw [decide_eq_false (show ¬ V.int (i : Nat) = V.int 0 by intro z; injection z with z; omega)]
      refine iteF ?_
      refine ⟨_, rfl, _, _, rfl, rfl, _, rfl, p, A.C, dx, _, _, rfl, h1, T.cT, T.nArms, tf_arms _ _ _, _, _, rfl, rfl, ⟨by have := t.hw; omega, by have := t.hw; omega⟩, ?_⟩
      unfold parV at q
      rw [if_neg h0] at q
      have e : Int.fdiv ((i : Int) - 1) (w : Int) = ((i - 1) / w : Nat) := by
        rw [Int.fdiv_eq_ediv_of_nonneg _ (by omega), show ((i : Int) - 1) = ((i - 1 : Nat) : Int) by omega]
        rfl
      show Q (V.int (Int.fdiv ((i : Int) - 1) (w : Int))) H
      rw [e]
      exact q
/-- a number that falls while a place goes up -/
def muV : Option (Option V) → Nat
  | some (some (V.int z)) => z.toNat + 1
  | _ => 0
def spWay (C : Addr) : Sp := fun vs H Q _ => ∃ (p n w i : Nat), vs = [.ref p, .int i] ∧ TreeAt C H p n w ∧ i < n ∧ ∀ H' q, Same H H' → H q = none → H' q = some (.tup (vi (wayL w i))) → Q (.ref q) H'
theorem ok_way (T : Tx K mg A) : FnOk P w K mg base CX0 5 A.f_t_way_to A.d_t_way_to ["self", "place"] (spWay A.C) := by
  refine T.F_t_way_to.ok sc_t_way_to (fun vs H Q E h => ?_) (fun cdv B outer s H vs Q E hr h => ?_)
  · obtain ⟨p, n, w, i, rfl, _⟩ := h
    rfl
  · obtain ⟨p, n, w, i, rfl, t, hi, q⟩ := h
    refine ⟨_, pss_cons (ps_set (i := 2) sc_t_way_to.nd rfl (Or.inl rfl) (pe_lst (pa_cons (pv 1) pa_nil)))
      (pss_cons (ps_set (i := 3) sc_t_way_to.nd rfl (Or.inl rfl) (pe_meth (pv 0) T.cT T.M_t_parent (ok_par T) hr (b_par T) .nil pass0 (pa_cons (pv 1) pa_nil)))
      (pss_cons (ps_while PassesOwn.never (pt_cmpR op_notN (pv 3) pe_non (nomark _))
        (pss_cons (ps_expr (pe_bm PySem.F.plainAttrs_list PySem.F.slot_list_append PySem.F.type_list_append mt_append (pv 2) (pa_cons (pv 3) pa_nil)))
        (pss_one (ps_set (i := 3) sc_t_way_to.nd rfl (Or.inl rfl) (pe_meth (pv 0) T.cT T.M_t_parent (ok_par T) hr (b_par T) .nil pass0 (pa_cons (pv 3) pa_nil))))))
      (pss_one (ps_ret (pe_callTy call_tuple_of (by rfl) T.g_tuple (by decide +kernel) (pa_cons (pe_revL (pv 2)) pa_nil)))))), ?_⟩
    obtain ⟨dx, l, h1, h2⟩ := t.ob
    have noP : (tf n w l).lookup ("parent" : Str) = none := tf_no _ _ _ (by decide +kernel) (by decide +kernel) (by decide +kernel)
    refine ⟨_, rfl, by show 1 ≤ sizeLine; decide, fun d hd => ?_⟩
    have s1 : Same H (upd H d (.lst [V.int (i : Nat)])) := Same.up hd
    refine ⟨_, rfl, p, dx, _, rfl, s1 _ _ h1, noP, _, rfl, p, n, w, i, rfl, t.same s1, hi, ?_⟩
    refine while_by (fun σ H' => ∃ (c : Nat) (acc : List Nat), σ = [some (.ref p), some (.int i), some (.ref d), some (parV w c)] ∧ c < n ∧ Acc H d (vi (acc ++ [c])) H' ∧ acc ++ upL w c = upL w i ∧ acc.length ≤ 12)
      (fun σ _ => muV σ[3]?) ⟨i, [], rfl, hi, ⟨s1, hd, upd_same⟩, rfl, Nat.zero_le _⟩ ?_ ?_
    · rintro σ H' ⟨c, acc, rfl, hc, ac, ea, hl⟩
      have hn := t.hn
      have hw := t.hw
      have eu := up_eq w (by omega) c (by omega) hw.1
      refine ⟨_, rfl, rfl, _, rfl, ?_⟩
      by_cases h0 : c = 0
      · have ev : parV w c = V.non := by unfold parV; rw [if_pos h0]
        rw [ev, decide_eq_true (rfl : V.non = V.non)]
        refine iteF ?_
        rw [if_pos h0] at eu
        refine ⟨_, rfl, d, _, rfl, SqL.of ac.a, fun r hr0 => ⟨r, _, rfl, .inl ⟨SqL.of upd_same, fun u hu => q _ u (ac.s.trans ((Same.up hr0).trans (Same.up hu))) (ac.s.free ((Same.up hr0).free hu)) ?_⟩⟩⟩
        unfold wayL
        rw [upd_same, vi_rev, ← ea, eu, h0]
      · have ev : parV w c = V.int ((c - 1) / w : Nat) := by unfold parV; rw [if_neg h0]
        rw [ev, decide_eq_false (show ¬ V.int ((c - 1) / w : Nat) = V.non from fun z => nomatch z)]
        refine iteT ?_
        rw [if_neg h0] at eu
        have hlt : (c - 1) / w < c := Nat.lt_of_le_of_lt (Nat.div_le_self _ _) (by omega)
        have hL : acc.length + 1 + (upL w ((c - 1) / w)).length = (upL w i).length := by
          rw [← ea, eu, List.length_append, List.length_cons]
          omega
        have hL2 := up_len w (by omega) i (by omega) hw.1
        have hL3 := up_eq w (by omega) ((c - 1) / w) (by omega) hw.1
        have hL4 : 1 ≤ (upL w ((c - 1) / w)).length := by
          rw [hL3]
          split
          · exact Nat.le_refl _
          · rw [List.length_cons]; omega
        refine ⟨_, rfl, .inl ⟨rfl, _, SqL.of ac.a⟩, _, rfl, d, _, _, rfl, rfl, ac.a, small1000 (by rw [vi_len, List.length_append, List.length_singleton]; omega), ?_⟩
        have e2 : vi (acc ++ [c]) ++ [V.int ((c - 1) / w : Nat)] = vi (acc ++ [c] ++ [(c - 1) / w]) := by rw [vi_app (acc ++ [c])]; rfl
        rw [e2]
        have ac2 : Acc H d (vi (acc ++ [c] ++ [(c - 1) / w])) (upd H' d (.lst (vi (acc ++ [c] ++ [(c - 1) / w])))) := ac.push
        refine ⟨_, rfl, p, dx, _, rfl, ac2.s _ _ h1, noP, _, rfl, p, n, w, (c - 1) / w, rfl, t.same ac2.s, by omega, ?_⟩
        refine ⟨⟨(c - 1) / w, acc ++ [c], rfl, by omega, ac2, ?_, by rw [List.length_append, List.length_singleton]; omega⟩, ?_⟩
        · rw [← ea, eu, List.append_assoc]
          rfl
        · show muV (some (some (parV w ((c - 1) / w)))) < muV (some (some (V.int ((c - 1) / w : Nat))))
          unfold parV
          split
          · show 0 < _
            exact Nat.succ_pos _
          · rename_i h9
            show (((((c - 1) / w - 1) / w : Nat) : Int)).toNat + 1 < ((((c - 1) / w : Nat) : Int)).toNat + 1
            rw [Int.toNat_natCast, Int.toNat_natCast]
            exact Nat.succ_lt_succ (Nat.lt_of_le_of_lt (Nat.div_le_self _ _) (Nat.sub_lt (Nat.pos_of_ne_zero h9) Nat.one_pos))
    · rintro σ' H1 Q1 Q2 mono ⟨v, hv, e1, b1, e2, z⟩
      exact ⟨v, hv, e1, b1, e2, mono _ _ z⟩

def spDep (C : Addr) : Sp := fun vs H Q _ => ∃ (p n w i : Nat), vs = [.ref p, .int i] ∧ TreeAt C H p n w ∧ i < n ∧ ∀ H', Same H H' → Q (.int (((wayL w i).length : Int) - 1)) H'
theorem ok_dep (T : Tx K mg A) : FnOk P w K mg base CX0 6 A.f_t_depth A.d_t_depth ["self", "place"] (spDep A.C) := by
  refine T.F_t_depth.ok sc_t_depth (fun vs H Q E h => ?_) (fun cdv B outer s H vs Q E hr h => ?_)
  · obtain ⟨p, n, w, i, rfl, _⟩ := h
    rfl
  · obtain ⟨p, n, w, i, rfl, t, hi, q⟩ := h
    obtain ⟨dx, l, h1, h2⟩ := t.ob
    have noW : (tf n w l).lookup ("way_to" : Str) = none := tf_no _ _ _ (by decide +kernel) (by decide +kernel) (by decide +kernel)
    refine ⟨_, pss_one (ps_ret (pe_op op_sub (pe_callB call_len_seq (by rfl) T.g_len PySem.boot_len (pa_cons (pe_meth (pv 0) T.cT T.M_t_way_to (ok_way T) hr (b_way T) .nil pass0 (pa_cons (pv 1) pa_nil)) pa_nil)) pe_int)), ?_⟩
    refine ⟨_, rfl, p, dx, _, rfl, h1, noW, _, rfl, p, n, w, i, rfl, t, hi, fun H1 r s1 r0 hr1 => ?_⟩
    refine ⟨r, _, rfl, .inr (SqT.of hr1), _, _, rfl, rfl, ?_⟩
    rw [vi_len]
    exact q _ s1
/-- the places of a subtree -/
def subL (n w i : Nat) : List Nat := (List.range n).filter fun j => decide (i ∈ wayL w j)
theorem mem_vi (i : Nat) (l : List Nat) : inV (V.int (i : Nat)) (vi l) = decide (i ∈ l) := by
  have key : ∀ j : Nat, eqV (V.int (j : Nat)) (V.int (i : Nat)) = decide (j = i) := fun j => by
    show ((j : Int) == (i : Int)) = decide (j = i)
    by_cases h : j = i
    · rw [h, decide_eq_true rfl, beq_self_eq_true]
    · rw [decide_eq_false h]
      exact beq_eq_false_iff_ne.mpr (by omega)
  unfold inV vi
  induction l with
  | nil => rfl
  | cons a l ih =>
    rw [List.map_cons, List.any_cons, ih, key]
    by_cases h : a = i
    · simp [h]
    · simp [h, Ne.symm h]
theorem vi_flat (l : List Nat) : (vi l).all flatV = true := by
  unfold vi
  rw [List.all_map]
  exact List.all_eq_true.mpr fun _ _ => rfl
theorem sub_pick (n w i : Nat) : vi (subL n w i) = (List.range n).filterMap fun j => if i ∈ wayL w j then some (V.int (j : Nat)) else none := by
  unfold vi subL
  induction List.range n with
  | nil => rfl
  | cons a l ih =>
    by_cases h : i ∈ wayL w a
    · rw [List.filter_cons_of_pos (by simp [h]), List.map_cons, ih, List.filterMap_cons, if_pos h]
    · rw [List.filter_cons_of_neg (by simp [h]), ih, List.filterMap_cons, if_neg h]
def spSub (C : Addr) : Sp := fun vs H Q _ => ∃ (p n w i : Nat), vs = [.ref p, .int i] ∧ TreeAt C H p n w ∧ i < n ∧ ∀ H' q, Same H H' → H q = none → H' q = some (.tup (vi (subL n w i))) → Q (.ref q) H'
theorem ok_sub (T : Tx K mg A) : FnOk P w K mg base CX0 6 A.f_t_subtree A.d_t_subtree ["self", "place"] (spSub A.C) := by
  refine T.F_t_subtree.ok sc_t_subtree (fun vs H Q E h => ?_) (fun cdv B outer s H vs Q E hr h => ?_)
  · obtain ⟨p, n, w, i, rfl, _⟩ := h
    rfl
  · obtain ⟨p, n, w, i, rfl, t, hi, q⟩ := h
    obtain ⟨dx, l, h1, h2⟩ := t.ob
    have noW : (tf n w l).lookup ("way_to" : Str) = none := tf_no _ _ _ (by decide +kernel) (by decide +kernel) (by decide +kernel)
    refine ⟨_, pss_cons (ps_expr (pe_call (ok_cp T) (hr.mono (by decide)) (by rfl) T.m_check_place T.F_check_place.kp (b_cp T) .nil pass0 (pa_cons (pv 1) (pa_cons (pe_fld (pv 0) rfl) pa_nil))))
      (pss_one (ps_ret (pe_callTy call_tuple_of (by rfl) T.g_tuple (by decide +kernel) (pa_cons
        (pe_lc (own := [("below", 2)]) (g := gName 2) rfl sc_t_subtree.nd (pi_tup (pe_fld (pv 0) rfl)) (blkOk_by (own := [("below", 2)]) (N := ["self", "place", "below"]) (sc := defScope s_t_subtree) (by decide +kernel)) (fun _ _ _ _ _ => pg_name (i := 2) sc_t_subtree.nd rfl (Or.inl rfl))
          (fun _ _ _ _ _ => pts_one (pt_cmpR (r := L2.rIn K false) op_in_seq (pv 1) (pe_meth (pv 0) T.cT T.M_t_way_to (ok_way T) hr (b_way T) .nil pass0 (pa_cons (pv 2) pa_nil)) (by rfl))) (fun _ _ _ _ _ => pv 2)) pa_nil)))), ?_⟩
    refine ⟨_, rfl, _, rfl, p, A.C, dx, _, _, rfl, h1, T.cT, T.nMany, tf_many _ _ _, _, _, rfl, ⟨by omega, by omega⟩, ?_⟩
    refine ⟨_, rfl, p, A.C, dx, _, _, rfl, h1, T.cT, T.nPl, tf_pl _ _ _, l, rfl, ⟨_, SqT.of h2⟩, fun D hD => ?_⟩
    refine lc_it (walk_tup (xs := pl n)) (PickI H D (List.range n) fun j => if i ∈ wayL w j then some (V.int (j : Nat)) else none) (pick_start hD) (fun k H' _ h => SqT.of (h.s _ _ h2)) ?_ ?_
    · rintro k x H2 H3 hk pk ⟨rfl, ex⟩
      obtain ⟨hk', rfl⟩ := map_at ex
      rw [List.getElem_range]
      rw [List.length_range] at hk'
      refine ⟨rfl, _, rfl, _, rfl, p, dx, _, rfl, pk.s _ _ h1, noW, _, rfl, p, n, w, k, rfl, t.same pk.s, hk', fun H4 r s4 r0 hr4 => ?_⟩
      refine ⟨r, _, rfl, .inr (SqT.of hr4), rfl, vi_flat _, _, rfl, ?_⟩
      show if (inV (V.int (i : Nat)) (vi (wayL w k))) = true then _ else _
      rw [mem_vi]
      by_cases hm : i ∈ wayL w k
      · rw [decide_eq_true hm]
        exact iteT ⟨_, rfl, pick_yes (by rw [List.length_range]; exact hk') (by rw [List.length_range]; have := t.hn; omega) (by rw [List.getElem_range, if_pos hm]) s4 pk⟩
      · rw [decide_eq_false hm]
        exact iteF (pick_no (by rw [List.length_range]; exact hk') (by rw [List.getElem_range, if_neg hm]) s4 pk)
    · intro H2 pk
      have ac := pick_end (by rw [pl_len, List.length_range]) pk
      refine ⟨D, _, rfl, .inl ⟨SqL.of ac.a, fun r hr0 => q _ r (ac.s.trans (Same.up hr0)) (ac.s.free hr0) ?_⟩⟩
      rw [upd_same, ← sub_pick]

theorem sub_n (n w i : Nat) : (subL n w i).length ≤ n := by
  unfold subL
  exact Nat.le_trans (List.length_filter_le _ _) (by rw [List.length_range]; exact Nat.le_refl _)
theorem self_sub : ∀ w, w < 5 → ∀ i, i < 13 → 1 ≤ w → i ∈ wayL w i := by decide +kernel
end
end Tw

set_option Elab.async false
set_option linter.all false
set_option maxRecDepth 100000
set_option maxHeartbeats 2000000
namespace Tw
open PySem PySem.Spec PyProof.Rows L2
section
variable {P : Program} {w : World} {K : PySem.W.Frag} {mg : Str → Option Value} {base : Heap} {A : Ad}

/-! the law's own defs -/
theorem ints_dp (K : PySem.W.Frag) (H : Hp) : ∀ ns : List Int, DpAll K H (ns.map V.int) (ns.map PyData.int)
  | [] => .nil
  | n :: ns => .cons (.int n) (ints_dp K H ns)
theorem emp_eqv : ∀ ns : List Int, PyData.eqv (.list (ns.map PyData.int)) (.list []) = decide (ns = [])
  | [] => by rfl
  | n :: ns => by rfl
theorem shaped_ints (ns : List Int) : SeqAt.shaped (.list (ns.map PyData.int)) = true := by
  have h1 : ∀ ms : List Int, PyData.canLayAll0 (ms.map PyData.int) = true := fun ms => by
    induction ms with
    | nil => rfl
    | cons m ms ih => rw [List.map_cons, PyData.canLayAll0, ih]; rfl
  have h2 : ∀ ms : List Int, PyData.depthAll (ms.map PyData.int) ≤ 1 := fun ms => by
    induction ms with
    | nil => simp [PyData.depthAll]
    | cons m ms ih =>
      simp only [List.map_cons, PyData.depthAll, PyData.depth]
      omega
  have h3 : PyData.depth (.list (ns.map PyData.int)) ≤ 64 := by
    have := h2 ns
    simp only [PyData.depth]
    omega
  unfold SeqAt.shaped
  rw [decide_eq_true h3, Bool.and_true]
  simp only [PyData.canLay0]
  exact h1 ns
theorem cut63 (xs : List V) (h : xs.length ≤ 63) : cutV xs none (some 63) = xs := by
  unfold cutV
  rw [HT.sIx_none, show (63 : Int) = ((63 : Nat) : Int) from rfl, HT.sIx_nat, List.drop_zero, Nat.min_eq_right h, Nat.sub_zero, List.take_length]
def spNum (K : PySem.W.Frag) : Sp := fun vs H Q _ => ∃ (a : Addr) (ns : List Int) (i : Nat), vs = [.ref a, .int i] ∧ SqL K H a (ns.map V.int) ∧ ns.length ≤ 63 ∧ i < 1000000 ∧ ∀ H' r, Same H H' → Q (.int r) H'
theorem ok_num (T : Tx K mg A) : FnOk P w K mg base CX0 2 A.f__law_number A.d__law_number ["script", "index"] (spNum K) := by
  refine T.F__law_number.ok sc__law_number (fun vs H Q E h => ?_) (fun cdv B outer s H vs Q E hr h => ?_)
  · obtain ⟨a, ns, i, rfl, _⟩ := h
    rfl
  · obtain ⟨a, ns, i, rfl, ha, hl, hi, q⟩ := h
    have nd := sc__law_number.nd
    have hu := hr.units
    refine ⟨_, C8.pss_cut (ps_set (i := 2) nd rfl (Or.inl rfl) (pe_ifExp (pt_cmpR (op_neD hu) (pv 0) (pe_lst pa_nil) (nomark _)) (pe_slice sl_list (pv 0) po_none (po_some pe_int)) (pe_lst (pa_cons pe_int pa_nil))))
      (pss_cons (ps_set (i := 3) nd rfl (Or.inl rfl) (pe_op op_add
        (pe_ix ix_list (pv 2) (pe_op op_mod (pe_callTy call_int1 (by rfl) T.g_int (by decide +kernel) (pa_cons (pv 1) pa_nil)) (pe_callB call_len_seq (by rfl) T.g_len PySem.boot_len (pa_cons (pv 2) pa_nil))) (fun _ _ => rfl))
        (pe_op op_mul pe_int (pe_op op_fdivN (pv 1) (pe_callB call_len_seq (by rfl) T.g_len PySem.boot_len (pa_cons (pv 2) pa_nil))))))
      (pss_cons (ps_par (i := 4) (j := 5) rfl nd rfl rfl (by decide) rfl rfl (pa_cons (pe_op op_mod (pe_callTy call_int1 (by rfl) T.g_int (by decide +kernel) (pa_cons (pv 3) pa_nil)) pe_int)
          (pa_cons (pe_op op_mod (pe_callTy call_int1 (by rfl) T.g_int (by decide +kernel) (pa_cons (pe_op op_fdivN (pv 3) pe_int) pa_nil)) pe_int) pa_nil)) rfl)
      (pss_cons (ps_set (i := 6) nd rfl (Or.inl rfl) (pe_op op_mod (pe_callTy call_int1 (by rfl) T.g_int (by decide +kernel) (pa_cons (pe_callB (cr_sum rfl) (by rfl) T.g_sum (by decide +kernel) (pa_cons (pv 2) pa_nil)) pa_nil)) pe_int))
      (pss_cons (ps_set (i := 7) nd rfl (Or.inl rfl) (pe_op op_mod (pe_callTy call_int1 (by rfl) T.g_int (by decide +kernel) (pa_cons
          (pe_op op_add (pe_op op_add (pe_op op_mul (pe_op op_add (pv 4) (pe_op op_mul pe_int (pv 1))) pe_int) (pe_op op_mul pe_int (pv 5))) (pv 6)) pa_nil)) pe_int))
      (pss_one (ps_ret (pe_op op_add (pe_op op_mul (pe_op op_mod (pe_callTy call_int1 (by rfl) T.g_int (by decide +kernel) (pa_cons
          (pe_op op_mul (pv 7) (pe_op op_add (pe_op op_add (pv 7) (pe_op op_mul pe_int (pv 1))) pe_int)) pa_nil)) pe_int) pe_int) (pv 5)))))))), ?_⟩
    refine ⟨fun σ H1 => ∃ (c : Addr) (cs : List Int), σ = [some (.ref a), some (.int i), some (.ref c), none, none, none, none, none] ∧ Same H H1 ∧ H1 c = some (.lst (cs.map V.int)) ∧ 0 < cs.length ∧ cs.length ≤ 63, ?_, ?_⟩
    · refine ⟨_, rfl, Nat.zero_le _, fun l0 hl0 => ?_⟩
      have hs0 : Same H (upd H l0 (.lst [])) := Same.up hl0
      refine ⟨.list (ns.map PyData.int), .list [], .lst (hs0.seq ha) (ints_dp _ _ _), .lst (SqL.of upd_same) .nil, ?_, rfl, _, rfl, ?_⟩
      · exact shaped_ints _
      · rw [emp_eqv]
        by_cases e : ns = []
        · rw [decide_eq_true e]
          refine iteF ⟨by show 1 ≤ sizeLine; decide, fun l1 hl1 => ⟨l1, [5], rfl, hs0.trans (Same.up hl1), upd_same, by decide, by decide⟩⟩
        · rw [decide_eq_false e]
          refine iteT ⟨_, rfl, _, rfl, a, _, rfl, hs0.seq ha, fun l1 hl1 => ⟨l1, ns, rfl, hs0.trans (Same.up hl1), ?_, ?_, hl⟩⟩
          · rw [upd_same]
            exact congrArg (fun z => some (HO.lst z)) (cut63 _ (by rw [List.length_map]; exact hl))
          · exact List.length_pos_iff.mpr e
    · rintro σ H1 ⟨c, cs, rfl, s1, hc, h0, h63⟩
      have hq := SqL.of (K := K) hc
      have hL : ((cs.map V.int).length : Int) = (cs.length : Int) := by rw [List.length_map]
      have hm0 : 0 ≤ (i : Int) % (cs.length : Int) := Int.emod_nonneg _ (by omega)
      have hm1 : (i : Int) % (cs.length : Int) < (cs.length : Int) := Int.emod_lt_of_pos _ (by omega)
      obtain ⟨j, hj⟩ : ∃ j : Nat, (i : Int) % (cs.length : Int) = (j : Int) := ⟨_, (Int.toNat_of_nonneg hm0).symm⟩
      have hjl : j < cs.length := by omega
      have hat : atI (cs.map V.int) ((i : Int) % ((cs.map V.int).length : Int)) = some (V.int cs[j]) := by
        rw [hL, hj]
        exact atI_nat (by rw [List.getElem?_map, List.getElem?_eq_getElem hjl]; rfl)
      refine ⟨_, rfl, _, rfl, .inl ⟨_, rfl, _, rfl, c, _, rfl, .inl hq, _, _, rfl, rfl, ?_, c, _, _, _, rfl, rfl, hq, hat, _, rfl, _, rfl, c, _, rfl, .inl hq, _, _, rfl, rfl, ⟨?_, ?_⟩, _, _, rfl, rfl, .inl ⟨by decide, by decide⟩, _, _, rfl, rfl, ?_⟩⟩
      · show (0 : Int) < ((cs.map V.int).length : Int)
        omega
      · omega
      · omega
      · refine ⟨_, rfl, .inl ⟨_, rfl, _, _, rfl, rfl, by show (0 : Int) < 1000003; decide, ?_⟩⟩
        refine ⟨_, rfl, _, _, rfl, rfl, ⟨by decide, by decide⟩, .inl ⟨_, rfl, _, _, rfl, rfl, by show (0 : Int) < 999983; decide, _, _, rfl, ?_⟩⟩
        refine ⟨_, rfl, c, cs, rfl, hq, .inl ⟨_, rfl, _, _, rfl, rfl, by show (0 : Int) < 65521; decide, ?_⟩⟩
        refine ⟨_, rfl, _, rfl, _, _, rfl, rfl, .inl ⟨by decide, by decide⟩, _, _, rfl, rfl, _, _, rfl, rfl, .inr ⟨by decide, by decide⟩, ?_⟩
        refine ⟨_, rfl, _, _, rfl, rfl, .inl ⟨by decide, by decide⟩, _, _, rfl, rfl, _, rfl, _, _, rfl, rfl, .inl ⟨_, rfl, _, _, rfl, rfl, by show (0 : Int) < 2147483647; decide, ?_⟩⟩
        refine ⟨_, rfl, _, rfl, _, rfl, _, _, rfl, rfl, .inl ⟨by decide, by decide⟩, _, _, rfl, rfl, _, _, rfl, rfl, _, _, rfl, rfl, .inl ⟨?_, ?_⟩, .inl ⟨_, rfl, _, _, rfl, rfl, by show (0 : Int) < 2147483629; decide, ?_⟩⟩
        · have := Int.emod_nonneg ((((cs[j] + 13 * Int.fdiv (i : Int) ((cs.map V.int).length : Int)) % 1000003 + 977 * (i : Int)) * 48271 + 31 * (Int.fdiv (cs[j] + 13 * Int.fdiv (i : Int) ((cs.map V.int).length : Int)) 1000003 % 999983)) + cs.sum % 65521) (show (2147483647 : Int) ≠ 0 by decide)
          omega
        · have := Int.emod_lt_of_pos ((((cs[j] + 13 * Int.fdiv (i : Int) ((cs.map V.int).length : Int)) % 1000003 + 977 * (i : Int)) * 48271 + 31 * (Int.fdiv (cs[j] + 13 * Int.fdiv (i : Int) ((cs.map V.int).length : Int)) 1000003 % 999983)) + cs.sum % 65521) (show (0 : Int) < 2147483647 by decide)
          omega
        · exact ⟨_, _, rfl, rfl, .inr ⟨by decide, by decide⟩, _, rfl, _, _, rfl, rfl, q _ _ s1⟩
theorem b_num (T : Tx K mg A) : L2.Binds K A.d__law_number ["script", "index"] [] := T.F__law_number.binds fun _ _ _ _ _ _ us hl => match us, hl with | [_, _], _ => rfl

/-- what stood, but for what stands at d -/
def But (d : Addr) (H H' : Hp) : Prop := ∀ b o, b ≠ d → H b = some o → H' b = some o
theorem But.of {d : Addr} {H H' : Hp} (s : Same H H') : But d H H' := fun b o _ e => s b o e
theorem But.trans {d : Addr} {H H1 H2 : Hp} (a : But d H H1) (b : But d H1 H2) : But d H H2 := fun c o n e => b c o n (a c o n e)
theorem But.put {d : Addr} {o : HO} {H : Hp} : But d H (upd H d o) := fun b u n e => by rw [upd_ne n]; exact e
theorem But.seq {d a : Addr} {H H' : Hp} {xs : List V} (s : But d H H') (h : SqL K H a xs) (n : a ≠ d ∨ ∀ H', SqL K H' a xs) : SqL K H' a xs := by
  rcases n with n | n
  rotate_left
  · exact n _
  rcases h with (h | ⟨o, h⟩) | h
  · exact .inl (.inl (s _ _ n h))
  · exact .inl (.inr ⟨o, s _ _ n h⟩)
  · exact .inr h
/-- the draws: a list of the script and of a number -/
structure DrAt (K : PySem.W.Frag) (H : Hp) (d a : Addr) (ns : List Int) (k : Nat) : Prop where
  l : H d = some (.lst [.ref a, .int k])
  n : a ≠ d ∨ ∀ H', SqL K H' a (ns.map V.int)
  s : SqL K H a (ns.map V.int)
  h : ns.length ≤ 63
theorem DrAt.start {K : PySem.W.Frag} {H : Hp} {d a : Addr} {ns : List Int} (ha : SqL K H a (ns.map V.int)) (hl : ns.length ≤ 63) (hd : H d = none) : DrAt K (upd H d (.lst [.ref a, .int 0])) d a ns 0 := by
  refine ⟨upd_same, ?_, (Same.up hd).seq ha, hl⟩
  rcases ha with (h | ⟨o, h⟩) | h
  · exact .inl (ne_of_none h hd)
  · exact .inl (ne_of_none h hd)
  · exact .inr fun H' => .inr h
theorem DrAt.same {K : PySem.W.Frag} {H H' : Hp} {d a : Addr} {ns : List Int} {k : Nat} (h : DrAt K H d a ns k) (s : Same H H') : DrAt K H' d a ns k := ⟨s _ _ h.l, h.n, s.seq h.s, h.h⟩
def spTake (K : PySem.W.Frag) : Sp := fun vs H Q _ => ∃ (d a : Addr) (ns : List Int) (k m : Nat), vs = [.ref d, .int m] ∧ DrAt K H d a ns k ∧ k < 100000 ∧ 0 < m ∧
  ∀ (H' : Hp) (r : Nat), But d H H' → DrAt K H' d a ns (k + 1) → r < m → Q (.int r) H'
theorem ok_take (T : Tx K mg A) : FnOk P w K mg base CX0 3 A.f__law_take A.d__law_take ["draw", "many"] (spTake K) := by
  refine T.F__law_take.ok sc__law_take (fun vs H Q E h => ?_) (fun cdv B outer s H vs Q E hr h => ?_)
  · obtain ⟨d, a, ns, k, m, rfl, _⟩ := h
    rfl
  · obtain ⟨d, a, ns, k, m, rfl, ⟨hl, hn, hs, h63⟩, hk, hm, q⟩ := h
    refine ⟨_, pss_cons (ps_asg (pe_op op_add (pe_ix ix_list (pv 0) pe_int (fun _ _ => rfl)) pe_int) (pg_sub (pv 0) pe_int set_list))
      (pss_one (ps_ret (pe_op op_mod (pe_callTy call_int1 (by rfl) T.g_int (by decide +kernel) (pa_cons
        (pe_call (ok_num T) hr (by rfl) T.m__law_number T.F__law_number.kp (b_num T) .nil pass0 (pa_cons (pe_ix ix_list (pv 0) pe_int (fun _ _ => rfl))
          (pa_cons (pe_callTy call_int1 (by rfl) T.g_int (by decide +kernel) (pa_cons (pe_ix ix_list (pv 0) pe_int (fun _ _ => rfl)) pa_nil)) pa_nil))) pa_nil)) (pv 1)))), ?_⟩
    have at1 : atI [V.ref a, V.int (k : Nat)] 1 = some (V.int (k : Nat)) := rfl
    refine ⟨_, rfl, d, _, _, _, rfl, rfl, SqL.of hl, at1, _, _, rfl, rfl, _, rfl, d, _, _, 1, rfl, rfl, hl, rfl, ?_⟩
    have e1 : upd H d (.lst (([V.ref a, V.int (k : Nat)]).set 1 (V.int ((k : Int) + 1)))) d = some (.lst [V.ref a, V.int ((k + 1 : Nat) : Int)]) := by
      rw [upd_same]
      rfl
    have b1 : But d H (upd H d (.lst (([V.ref a, V.int (k : Nat)]).set 1 (V.int ((k : Int) + 1))))) := But.put
    have s1 := b1.seq hs hn
    refine ⟨_, rfl, d, _, _, _, rfl, rfl, SqL.of e1, rfl, _, rfl, d, _, _, _, rfl, rfl, SqL.of e1, rfl, .inl ⟨_, rfl, a, ns, k + 1, rfl, s1, h63, by omega, fun H2 r s2 => ?_⟩⟩
    refine .inl ⟨_, rfl, _, rfl, _, _, rfl, rfl, by show (0 : Int) < (m : Nat); omega, ?_⟩
    have m0 := Int.emod_nonneg r (show ((m : Nat) : Int) ≠ 0 by omega)
    have m1 := Int.emod_lt_of_pos r (show (0 : Int) < (m : Nat) by omega)
    obtain ⟨z, hz⟩ : ∃ z : Nat, r % (m : Nat) = (z : Int) := ⟨_, (Int.toNat_of_nonneg m0).symm⟩
    have h := q H2 z (b1.trans (But.of s2)) ⟨s2 _ _ e1, hn, s2.seq s1, h63⟩ (by omega)
    rw [← hz] at h
    exact h
theorem b_take (T : Tx K mg A) : L2.Binds K A.d__law_take ["draw", "many"] [] := T.F__law_take.binds fun _ _ _ _ _ _ us hl => match us, hl with | [_, _], _ => rfl

/-! ways, children, subtrees by the law -/
def dl (l : List Nat) : List PyData := l.map fun i => PyData.int (i : Nat)
theorem dl_ints (l : List Nat) : dl l = (l.map fun i => ((i : Nat) : Int)).map PyData.int := by unfold dl; rw [List.map_map]; rfl
theorem vi_ints (l : List Nat) : vi l = (l.map fun i => ((i : Nat) : Int)).map V.int := by unfold vi; rw [List.map_map]; rfl
theorem vi_dp (K : PySem.W.Frag) (H : Hp) (l : List Nat) : DpAll K H (vi l) (dl l) := by
  rw [vi_ints, dl_ints]
  exact ints_dp _ _ _
theorem dl_shaped (l : List Nat) : SeqAt.shaped (.tuple (dl l)) = true := by
  rw [dl_ints]
  exact shaped_ints _
theorem dl_shapedL (l : List Nat) : SeqAt.shaped (.list (dl l)) = true := by
  rw [dl_ints]
  exact shaped_ints _
theorem refl_of {d : PyData} (h : SeqAt.shaped d = true) : PyData.eqv d d = true := PySem.SeqAt.eqv_refl d (SeqAt.canLay_of_shaped h)
def spLPar : Sp := fun vs H Q _ => ∃ (w i : Nat), vs = [.int w, .int i] ∧ (1 ≤ w ∧ w ≤ 4) ∧ 1 ≤ i ∧ Q (.int ((i - 1) / w : Nat)) H
theorem ok_lpar (T : Tx K mg A) : FnOk P w K mg base CX0 2 A.f__law_parent A.d__law_parent ["wide", "place"] spLPar := by
  refine T.F__law_parent.ok sc__law_parent (fun vs H Q E h => ?_) (fun cdv B outer s H vs Q E hr h => ?_)
  · obtain ⟨w, i, rfl, _⟩ := h
    rfl
  · obtain ⟨w, i, rfl, hw, hi, q⟩ := h
    refine ⟨_, pss_one (ps_ret (pe_op op_fdivN (pe_callTy call_int1 (by rfl) T.g_int (by decide +kernel) (pa_cons (pe_op op_sub (pv 1) pe_int) pa_nil)) (pv 0))), ?_⟩
    refine ⟨_, rfl, _, _, rfl, rfl, .inl ⟨_, rfl, _, rfl, _, _, rfl, rfl, ⟨by omega, by omega⟩, ?_⟩⟩
    have e : Int.fdiv ((i : Int) - 1) (w : Int) = ((i - 1) / w : Nat) := by
      rw [Int.fdiv_eq_ediv_of_nonneg _ (by omega), show ((i : Int) - 1) = ((i - 1 : Nat) : Int) by omega]
      rfl
    show Q (V.int (Int.fdiv ((i : Int) - 1) (w : Int))) H
    rw [e]
    exact q
theorem b_lpar (T : Tx K mg A) : L2.Binds K A.d__law_parent ["wide", "place"] [] := T.F__law_parent.binds fun _ _ _ _ _ _ us hl => match us, hl with | [_, _], _ => rfl
def spLWay : Sp := fun vs H Q _ => ∃ (w i : Nat), vs = [.int w, .int i] ∧ (1 ≤ w ∧ w ≤ 4) ∧ i ≤ 12 ∧ ∀ H' q, Same H H' → H q = none → H' q = some (.lst (vi (wayL w i))) → Q (.ref q) H'
theorem up_head : ∀ w, w < 5 → ∀ p, p < 13 → 1 ≤ w → upL w p = p :: (upL w p).tail := by decide +kernel
theorem way_len : ∀ w, w < 5 → ∀ p, p < 13 → 1 ≤ w → (wayL w p).length ≤ 13 := by decide +kernel
theorem ok_lway (T : Tx K mg A) : FnOk P w K mg base CX0 3 A.f__law_way A.d__law_way ["wide", "place"] spLWay := by
  refine T.F__law_way.ok sc__law_way (fun vs H Q E h => ?_) (fun cdv B outer s H vs Q E hr h => ?_)
  · obtain ⟨w, i, rfl, _⟩ := h
    rfl
  · obtain ⟨w, i, rfl, hw, hi, q⟩ := h
    have nd := sc__law_way.nd
    refine ⟨_, pss_cons (ps_set (i := 2) nd rfl (Or.inl rfl) (pe_lst (pa_cons (pv 1) pa_nil)))
      (pss_cons (ps_for PassesOwn.never rfl (pi_range1 rfl T.g_range (pa_cons pe_int pa_nil)) (pg_name (i := 3) nd rfl (Or.inl rfl))
        (pss_cons (ps_if (pt_cmpR op_eq (pe_ix ix_list (pv 2) pe_int (fun _ _ => rfl)) pe_int (nomark _)) (pss_one (ps_ret (pv 2))) pss_nil)
        (pss_one (ps_set (i := 2) nd rfl (Or.inl rfl) (pe_op op_cat (pe_lst (pa_cons (pe_call (ok_lpar T) hr (by rfl) T.m__law_parent T.F__law_parent.kp (b_lpar T) .nil pass0 (pa_cons (pv 0) (pa_cons (pe_ix ix_list (pv 2) pe_int (fun _ _ => rfl)) pa_nil))) pa_nil)) (pv 2))))))
      (pss_one (ps_ret (pv 2)))), ?_⟩
    refine ⟨_, rfl, by show 1 ≤ sizeLine; decide, fun d hd => ?_⟩
    refine ⟨20, rfl, by decide, by decide, for_range (n := 20) (fun k σ H' => ∃ (c : Nat) (L : List Nat) (a : Addr) (z : Option V), σ = [some (.int w), some (.int i), some (.ref a), z] ∧ Same H H' ∧ H a = none ∧ H' a = some (.lst (vi (c :: L))) ∧
      wayL w i = (upL w c).tail.reverse ++ (c :: L) ∧ c + k ≤ 12) ⟨i, [], d, none, rfl, Same.up hd, hd, upd_same, ?_, by omega⟩ ?_ ?_⟩
    · unfold wayL
      have h := up_head w (by omega) i (by omega) hw.1
      rw [h, List.reverse_cons]
      rfl
    · rintro k σ H' hk ⟨c, L, a, z, rfl, s1, a0, ha, eq, hc⟩
      have hat : atI (vi (c :: L)) 0 = some (V.int (c : Nat)) := atI_nat (j := 0) rfl
      refine ⟨_, rfl, a, _, _, _, rfl, rfl, SqL.of ha, hat, rfl, _, rfl, ?_⟩
      by_cases h0 : c = 0
      · rw [decide_eq_true (show V.int (c : Nat) = V.int 0 by rw [h0]; rfl)]
        refine iteT ⟨_, rfl, q _ a s1 a0 ?_⟩
        subst h0
        have e0 := up_eq w (by omega) 0 (by omega) hw.1
        rw [if_pos rfl] at e0
        rw [e0] at eq
        rw [ha, eq]
        rfl
      · rw [decide_eq_false (show ¬ V.int (c : Nat) = V.int 0 by intro z; injection z with z; omega)]
        refine iteF ?_
        have hlt : (c - 1) / w < c := Nat.lt_of_le_of_lt (Nat.div_le_self _ _) (by omega)
        have e1 := up_eq w (by omega) c (by omega) hw.1
        rw [if_neg h0] at e1
        have e2 := up_head w (by omega) ((c - 1) / w) (by omega) hw.1
        have hlen : (c :: L).length ≤ 13 := by
          have h3 := way_len w (by omega) i (by omega) hw.1
          rw [eq, List.length_append] at h3
          omega
        refine ⟨_, rfl, _, rfl, a, _, _, _, rfl, rfl, SqL.of ha, hat, w, c, rfl, hw, by omega, by show 1 ≤ sizeLine; decide, fun a2 ha2 => ?_⟩
        have s2 : Same H' (upd H' a2 (.lst [V.int ((c - 1) / w : Nat)])) := Same.up ha2
        refine ⟨_, rfl, a2, a, _, _, rfl, rfl, upd_same, s2 _ _ ha, ?_, fun a3 ha3 => ?_⟩
        · rw [vi_len]
          exact Nat.le_of_lt (small1000 (by rw [List.length_singleton]; omega))
        · refine ⟨(c - 1) / w, c :: L, a3, _, rfl, s1.trans (s2.trans (Same.up ha3)), (s1.trans s2).free ha3, upd_same, ?_, by omega⟩
          rw [eq, e1, List.tail_cons]
          conv => lhs; rw [e2]
          rw [List.reverse_cons, List.append_assoc]
          rfl
    · rintro σ H' ⟨c, L, a, z, rfl, s1, a0, ha, eq, hc⟩
      omega
theorem b_lway (T : Tx K mg A) : L2.Binds K A.d__law_way ["wide", "place"] [] := T.F__law_way.binds fun _ _ _ _ _ _ us hl => match us, hl with | [_, _], _ => rfl


def spLSub : Sp := fun vs H Q _ => ∃ (w n i : Nat), vs = [.int w, .int n, .int i] ∧ (1 ≤ w ∧ w ≤ 4) ∧ n ≤ 12 ∧ i < n ∧ ∀ H' q, Same H H' → H q = none → H' q = some (.lst (vi (subL n w i))) → Q (.ref q) H'
theorem ok_lsub (T : Tx K mg A) : FnOk P w K mg base CX0 4 A.f__law_subtree A.d__law_subtree ["wide", "many", "place"] spLSub := by
  refine T.F__law_subtree.ok sc__law_subtree (fun vs H Q E h => ?_) (fun cdv B outer s H vs Q E hr h => ?_)
  · obtain ⟨w, n, i, rfl, _⟩ := h
    rfl
  · obtain ⟨w, n, i, rfl, hw, hn, hi, q⟩ := h
    have nd := sc__law_subtree.nd
    refine ⟨_, pss_one (ps_ret (pe_lc (own := [("other", 3)]) (g := gName 3) rfl nd (pi_range1 rfl T.g_range (pa_cons (pv 1) pa_nil)) (blkOk_by (own := [("other", 3)]) (N := ["wide", "many", "place", "other"]) (sc := defScope s__law_subtree) (by decide +kernel))
      (fun _ _ _ _ _ => pg_name (i := 3) nd rfl (Or.inl rfl))
      (fun _ _ _ _ _ => pts_one (pt_cmpR (r := L2.rIn K false) op_in_seq (pv 2) (pe_call (ok_lway T) hr (by rfl) T.m__law_way T.F__law_way.kp (b_lway T) .nil pass0 (pa_cons (pv 0) (pa_cons (pv 3) pa_nil))) (by rfl))) (fun _ _ _ _ _ => pv 3))), ?_⟩
    refine ⟨_, rfl, _, rfl, by omega, by omega, fun D hD => ?_⟩
    rw [Int.toNat_natCast]
    refine lc_it (walk_range (lo := 0) (n := n)) (PickI H D (List.range n) fun j => if i ∈ wayL w j then some (V.int (j : Nat)) else none) (pick_start hD) (fun k H' _ h => trivial) ?_ ?_
    · rintro k x H2 H3 hk pk ⟨rfl, ex⟩
      have ex2 : x = V.int (k : Nat) := ex.trans (by show V.int (0 + (k : Int)) = _; rw [Int.zero_add])
      subst ex2
      have hk' : k < (List.range n).length := by rw [List.length_range]; exact hk
      refine ⟨rfl, _, rfl, _, rfl, _, rfl, w, k, rfl, hw, by omega, fun H4 r s4 r0 hr4 => ?_⟩
      refine ⟨r, _, rfl, .inl (SqL.of hr4), rfl, vi_flat _, _, rfl, ?_⟩
      show if (inV (V.int (i : Nat)) (vi (wayL w k))) = true then _ else _
      rw [mem_vi]
      by_cases hm : i ∈ wayL w k
      · rw [decide_eq_true hm]
        exact iteT ⟨_, rfl, pick_yes hk' (by rw [List.length_range]; omega) (by rw [List.getElem_range, if_pos hm]) s4 pk⟩
      · rw [decide_eq_false hm]
        exact iteF (pick_no hk' (by rw [List.getElem_range, if_neg hm]) s4 pk)
    · intro H2 pk
      have ac := pick_end (by rw [List.length_range]) pk
      refine q _ D ac.s hD ?_
      rw [ac.a, sub_pick]
theorem b_lsub (T : Tx K mg A) : L2.Binds K A.d__law_subtree ["wide", "many", "place"] [] := T.F__law_subtree.binds fun _ _ _ _ _ _ us hl => match us, hl with | [_, _, _], _ => rfl
/-- the children as the law looks for them -/
def kidL (n w i : Nat) : List Nat := ((List.range (n - 1)).filter fun j => decide (j / w = i)).map (· + 1)
theorem kid_pick (n w i : Nat) : vi (kidL n w i) = (List.range (n - 1)).filterMap fun j => if j / w = i then some (V.int ((j + 1 : Nat) : Int)) else none := by
  unfold vi kidL
  induction List.range (n - 1) with
  | nil => rfl
  | cons a l ih =>
    by_cases h : a / w = i
    · rw [List.filter_cons_of_pos (by simp [h]), List.map_cons, List.map_cons, ih, List.filterMap_cons, if_pos h]
    · rw [List.filter_cons_of_neg (by simp [h]), ih, List.filterMap_cons, if_neg h]
def kidsN (n w i : Nat) : List Nat := ((List.range n).drop (min (i * w + 1) n)).take (min (i * w + 1 + w) n - min (i * w + 1) n)
theorem kids_same : ∀ n, n < 13 → ∀ w, w < 5 → ∀ i, i < n → 1 ≤ w → kidsN n w i = kidL n w i := by decide +kernel
theorem kids_eq (n w i : Nat) : kids n w i = vi (kidsN n w i) := by
  unfold kids cutV kidsN
  rw [pl_len, show ((i : Int) * (w : Int) + 1) = ((i * w + 1 : Nat) : Int) by push_cast; rfl, show (((i * w + 1 : Nat) : Int) + (w : Int)) = ((i * w + 1 + w : Nat) : Int) by push_cast; rfl, HT.sIx_nat, HT.sIx_nat]
  unfold vi pl
  rw [List.map_take, List.map_drop]
def spLKid : Sp := fun vs H Q _ => ∃ (w n i : Nat), vs = [.int w, .int n, .int i] ∧ (1 ≤ w ∧ w ≤ 4) ∧ n ≤ 12 ∧ i < n ∧ ∀ H' q, Same H H' → H q = none → H' q = some (.lst (vi (kidL n w i))) → Q (.ref q) H'
theorem ok_lkid (T : Tx K mg A) : FnOk P w K mg base CX0 3 A.f__law_children A.d__law_children ["wide", "many", "place"] spLKid := by
  refine T.F__law_children.ok sc__law_children (fun vs H Q E h => ?_) (fun cdv B outer s H vs Q E hr h => ?_)
  · obtain ⟨w, n, i, rfl, _⟩ := h
    rfl
  · obtain ⟨w, n, i, rfl, hw, hn, hi, q⟩ := h
    have nd := sc__law_children.nd
    refine ⟨_, pss_one (ps_ret (pe_lc (own := [("other", 3)]) (g := gName 3) rfl nd (pi_range2 rfl T.g_range (pa_cons pe_int (pa_cons (pv 1) pa_nil))) (blkOk_by (own := [("other", 3)]) (N := ["wide", "many", "place", "other"]) (sc := defScope s__law_children) (by decide +kernel))
      (fun _ _ _ _ _ => pg_name (i := 3) nd rfl (Or.inl rfl))
      (fun _ _ _ _ _ => pts_one (pt_cmpR op_eq (pe_call (ok_lpar T) hr (by rfl) T.m__law_parent T.F__law_parent.kp (b_lpar T) .nil pass0 (pa_cons (pv 0) (pa_cons (pv 3) pa_nil))) (pv 2) (nomark _))) (fun _ _ _ _ _ => pv 3))), ?_⟩
    refine ⟨_, rfl, _, _, rfl, ⟨by omega, by omega, by omega, by omega⟩, fun D hD => ?_⟩
    rw [show ((n : Int) - 1).toNat = n - 1 by omega]
    refine lc_it (walk_range (lo := 1) (n := n - 1)) (PickI H D (List.range (n - 1)) fun j => if j / w = i then some (V.int ((j + 1 : Nat) : Int)) else none) (pick_start hD) (fun k H' _ h => trivial) ?_ ?_
    · rintro k x H2 H3 hk pk ⟨rfl, ex⟩
      have ex2 : x = V.int ((k + 1 : Nat) : Int) := ex.trans (by show V.int (1 + (k : Int)) = _; rw [show (1 + (k : Int)) = ((k + 1 : Nat) : Int) by omega])
      subst ex2
      have hk' : k < (List.range (n - 1)).length := by rw [List.length_range]; exact hk
      refine ⟨rfl, _, rfl, _, rfl, w, k + 1, rfl, hw, by omega, _, rfl, rfl, _, rfl, ?_⟩
      rw [show k + 1 - 1 = k by omega]
      by_cases hm : k / w = i
      · rw [decide_eq_true (show V.int ((k / w : Nat) : Int) = V.int (i : Nat) by rw [hm])]
        exact iteT ⟨_, rfl, pick_yes hk' (by rw [List.length_range]; omega) (by rw [List.getElem_range, if_pos hm]) (Same.refl _) pk⟩
      · rw [decide_eq_false (show ¬ V.int ((k / w : Nat) : Int) = V.int (i : Nat) from fun z => hm (by injection z with z; exact Int.ofNat.inj z))]
        exact iteF (pick_no hk' (by rw [List.getElem_range, if_neg hm]) (Same.refl _) pk)
    · intro H2 pk
      have ac := pick_end (by rw [List.length_range]) pk
      refine q _ D ac.s hD ?_
      rw [ac.a, kid_pick]
theorem b_lkid (T : Tx K mg A) : L2.Binds K A.d__law_children ["wide", "many", "place"] [] := T.F__law_children.binds fun _ _ _ _ _ _ us hl => match us, hl with | [_, _, _], _ => rfl

theorem kb_of (T : Tx K mg A) : ∃ mv : List Value, KBn K A.d_t_of ["cls", "row", "arms"] 2 ["arms"] (fun us ws => us ++ (mv ++ ws)) (fun vs zs => vs ++ zs) := by
  obtain ⟨mv, h⟩ := T.F_t_of.kbinds0 (ps := ["cls", "row", "arms"]) 2 ["arms"] [] (fun us mv ws => us ++ (mv ++ ws)) (by simp) (by simp) (fun r1 r2 r3 => r1.append (r2.append r3))
    (fun D doc pm an cdv ct us mv ws h1 h2 h3 => by
      match us, mv, ws, h1, h2, h3 with
      | [a, b], [], [c], _, _, _ => rfl)
  exact ⟨mv, h⟩
theorem TreeAt.but {C d : Addr} {H H' : Hp} {p n w : Nat} {xs : List V} (h : TreeAt C H p n w) (s : But d H H') (hd : H d = some (.lst xs)) : TreeAt C H' p n w := by
  obtain ⟨dx, t, a, b⟩ := h.ob
  exact ⟨⟨dx, t, s _ _ (ne_of a hd (by intro z; cases z)) a, s _ _ (ne_of b hd (by intro z; cases z)) b⟩, h.hn, h.hw⟩
/-- what stood before an instance was made stands behind its making -/
theorem new_same {C x dx : Addr} {H H' : Hp} (nx : H x = none) (ndx : H dx = none) (k : ∀ b o, (upd (upd H dx (.own x)) x (.ins C dx [])) b = some o → b ≠ x → H' b = some o) : Same H H' := fun b o e => by
  refine k b o ?_ (ne_of_none e nx)
  rw [upd_ne (ne_of_none e nx), upd_ne (ne_of_none e ndx)]
  exact e

theorem b_iter' (T : Tx K mg A) : L2.Binds K A.d_t___iter__ ["self"] [] := b_iter T
theorem ix_sq {H : Hp} {a : Addr} {ns : List Int} {i : Nat} {Q : VK} (h : Sq H a (ns.map V.int)) (hi : i < ns.length) (q : Q (.int (ns.getD i 0)) H) : rIx K (.ref a) (.int i) H Q := by
  have e : (ns.map V.int)[i]? = some (V.int (ns.getD i 0)) := by
    rw [List.getElem?_map, List.getElem?_eq_getElem hi, List.getD_eq_getElem?_getD, List.getElem?_eq_getElem hi]
    rfl
  rcases h with h | h
  · exact .inl ⟨a, _, _, _, rfl, rfl, SqL.of h, atI_nat e, q⟩
  · exact .inr (.inl ⟨a, _, _, _, rfl, rfl, SqT.of h, atI_nat e, q⟩)
/-- the faults of a row -/
def faultB (ns : List Int) (w p : Nat) : Bool := decide (0 < p) && decide (ns.getD p 0 < ns.getD ((p - 1) / w) 0)
def faultL (ns : List Int) (w : Nat) : List Nat := (List.range ns.length).filter (faultB ns w)
theorem filt_pick (l : List Nat) (b : Nat → Bool) : vi (l.filter b) = l.filterMap fun j => if b j = true then some (V.int (j : Nat)) else none := by
  unfold vi
  induction l with
  | nil => rfl
  | cons a l ih =>
    by_cases h : b a = true
    · rw [List.filter_cons_of_pos h, List.map_cons, ih, List.filterMap_cons, if_pos h]
    · rw [List.filter_cons_of_neg h, ih, List.filterMap_cons, if_neg h]
def RowIn (H : Hp) (a : Addr) (ns : List Int) : Prop := Sq H a (ns.map V.int) ∧ ns.length ≤ 12 ∧ (∀ n ∈ ns, -1000000000 ≤ n ∧ n ≤ 1000000000)
theorem RowIn.same {H H' : Hp} {a : Addr} {ns : List Int} (h : RowIn H a ns) (s : Same H H') : RowIn H' a ns := ⟨h.1.same s, h.2⟩
def spFau : Sp := fun vs H Q _ => ∃ (a w : Nat) (ns : List Int), vs = [.ref a, .int w] ∧ (1 ≤ w ∧ w ≤ 4) ∧ RowIn H a ns ∧ ∀ H' q, Same H H' → H q = none → H' q = some (.lst (vi (faultL ns w))) → Q (.ref q) H'
theorem ok_fau (T : Tx K mg A) : FnOk P w K mg base CX0 7 A.f_faults A.d_faults ["row", "arms"] spFau := by
  obtain ⟨mo, ko⟩ := kb_of T
  refine T.F_faults.ok sc_faults (fun vs H Q E h => ?_) (fun cdv B outer s H vs Q E hr h => ?_)
  · obtain ⟨a, w, ns, rfl, _⟩ := h
    rfl
  · obtain ⟨a, w, ns, rfl, hw, hrow, q⟩ := h
    have nd := sc_faults.nd
    refine ⟨_, PSs.nox (pss_cons (ps_set (i := 2) nd rfl (Or.inr rfl) (pe_cmethK (pe_glob (v := .ref A.C) (by rfl) T.mC (relR _)) T.cr T.cof (ok_of T) hr ko pass0 (pa_cons (pv 0) pa_nil) (pk_cons (pv 1) pk_nil)))
      (pss_one (ps_ret (pe_lc (own := [("place", 3)]) (g := gName 3) rfl nd (pi_own T.D_t___iter__ (ok_iter T) (hr.mono (by decide)) (b_iter T) (pv 2)) (blkOk_by (own := [("place", 3)]) (N := ["row", "arms", "tree", "place"]) (sc := defScope s_faults) (by decide +kernel))
        (fun _ _ _ _ _ => pg_name (i := 3) nd rfl (Or.inl rfl))
        (fun _ _ _ _ _ => pts_one (PW.pt (pw_and (pt_cmpR op_gt (pv 3) pe_int (nomark _)) (pw_and1 (pt_cmpR op_lt (pe_ix (r := rIx K) ix_seq (pv 0) (pv 3) (fun _ _ => rfl))
          (pe_ix (r := rIx K) ix_seq (pv 0) (pe_meth (pv 2) T.cT T.M_t_parent (ok_par T) (hr.mono (by decide)) (b_par T) .nil pass0 (pa_cons (pv 3) pa_nil)) (fun _ _ => rfl)) (nomark _))))))
        (fun _ _ _ _ _ => pv 3))))), ?_⟩
    refine ⟨rfl, _, rfl, _, rfl, rfl, rfl, a, w, ns, rfl, hw, hrow.1, hrow.2.1, hrow.2.2, fun H1 p s1 p0 t1 => ?_⟩
    obtain ⟨dx, l, h1, h2⟩ := t1.ob
    have noP : (tf ns.length w l).lookup ("parent" : Str) = none := tf_no _ _ _ (by decide +kernel) (by decide +kernel) (by decide +kernel)
    have hlen := hrow.2.1
    refine ⟨_, rfl, p, dx, _, l, _, rfl, h1, tf_pl _ _ _, SqT.of h2, fun D hD => ?_⟩
    refine lc_it (walk_tup (xs := pl ns.length)) (PickI H1 D (List.range ns.length) fun j => if faultB ns w j = true then some (V.int (j : Nat)) else none) (pick_start hD) (fun k H' _ h => SqT.of (h.s _ _ h2)) ?_ ?_
    · rintro k x H2 H3 hk pk ⟨rfl, ex⟩
      obtain ⟨hk', rfl⟩ := map_at ex
      rw [List.getElem_range]
      have hk2 : k < ns.length := by rw [List.length_range] at hk'; exact hk'
      have hrow3 := (hrow.1.same s1).same pk.s
      refine ⟨rfl, _, rfl, _, _, rfl, rfl, _, rfl, ?_⟩
      by_cases h0 : 0 < k
      · rw [decide_eq_true (show (0 : Int) < (k : Nat) by omega)]
        have ep : parV w k = V.int ((k - 1) / w : Nat) := by unfold parV; rw [if_neg (by omega)]
        have hlt : (k - 1) / w < k := Nat.lt_of_le_of_lt (Nat.div_le_self _ _) (by omega)
        refine iteT ⟨_, rfl, _, rfl, ix_sq hrow3 hk2 ⟨_, rfl, _, rfl, p, dx, _, rfl, pk.s _ _ h1, noP, _, rfl, p, ns.length, w, k, rfl, t1.same pk.s, hk2, ?_⟩⟩
        rw [ep]
        refine ix_sq hrow3 (by omega) ⟨_, _, rfl, rfl, _, rfl, ?_⟩
        have ef : faultB ns w k = decide (ns.getD k 0 < ns.getD ((k - 1) / w) 0) := by unfold faultB; rw [decide_eq_true h0, Bool.true_and]
        by_cases hf : ns.getD k 0 < ns.getD ((k - 1) / w) 0
        · rw [decide_eq_true hf] at ef ⊢
          exact iteT ⟨_, rfl, pick_yes hk' (by rw [List.length_range]; omega) (by rw [List.getElem_range, ef]; rfl) (Same.refl _) pk⟩
        · rw [decide_eq_false hf] at ef ⊢
          exact iteF (pick_no hk' (by rw [List.getElem_range, ef]; rfl) (Same.refl _) pk)
      · rw [decide_eq_false (show ¬ (0 : Int) < (k : Nat) by omega)]
        have ef : faultB ns w k = false := by unfold faultB; rw [decide_eq_false h0, Bool.false_and]
        exact iteF (iteF (pick_no hk' (by rw [List.getElem_range, ef]; rfl) (Same.refl _) pk))
    · intro H2 pk
      have ac := pick_end (by rw [pl_len, List.length_range]) pk
      refine q _ D (s1.trans ac.s) (s1.free hD) ?_
      rw [ac.a]
      unfold faultL
      rw [filt_pick]
theorem kb_fau (T : Tx K mg A) : ∃ mv : List Value, KBn K A.d_faults ["row", "arms"] 1 ["arms"] (fun us ws => us ++ (mv ++ ws)) (fun vs zs => vs ++ zs) := by
  obtain ⟨mv, h⟩ := T.F_faults.kbinds0 (ps := ["row", "arms"]) 1 ["arms"] [] (fun us mv ws => us ++ (mv ++ ws)) (by simp) (by simp) (fun r1 r2 r3 => r1.append (r2.append r3))
    (fun D doc pm an cdv ct us mv ws h1 h2 h3 => by
      match us, mv, ws, h1, h2, h3 with
      | [a], [], [c], _, _, _ => rfl)
  exact ⟨mv, h⟩
theorem bd_fau (T : Tx K mg A) : ∃ ds, Vals [V.int 2] ds ∧ L2.Binds K A.d_faults ["row", "arms"] ds := by
  refine T.F_faults.binds0 1 (by simp) rfl (fun D doc pm an cdv ct us ks h1 h2 => ?_)
  match us, ks, h1, h2 with
  | [a], [c], _, _ => exact ⟨_, _, _, _, _, _, rfl, rfl, rfl⟩
def spPick (K : PySem.W.Frag) : Sp := fun vs H Q _ => ∃ (d a b : Addr) (ns zs : List Int) (k : Nat), vs = [.ref d, .ref b] ∧ DrAt K H d a ns k ∧ k < 50000 ∧ H b = some (.lst (zs.map V.int)) ∧ b ≠ d ∧ 0 < zs.length ∧
  ∀ (H' : Hp) (z : Int), But d H H' → DrAt K H' d a ns (k + 1) → z ∈ zs → Q (.int z) H'
theorem ok_pick (T : Tx K mg A) : FnOk P w K mg base CX0 4 A.f__law_pick A.d__law_pick ["draw", "things"] (spPick K) := by
  refine T.F__law_pick.ok sc__law_pick (fun vs H Q E h => ?_) (fun cdv B outer s H vs Q E hr h => ?_)
  · obtain ⟨d, a, b, ns, zs, k, rfl, _⟩ := h
    rfl
  · obtain ⟨d, a, b, ns, zs, k, rfl, dr, hk, hb, hbd, hz, q⟩ := h
    refine ⟨_, pss_one (ps_ret (pe_ix ix_list (pv 1) (pe_call (ok_take T) hr (by rfl) T.m__law_take T.F__law_take.kp (b_take T) .nil pass0 (pa_cons (pv 0) (pa_cons (pe_callB call_len_seq (by rfl) T.g_len PySem.boot_len (pa_cons (pv 1) pa_nil)) pa_nil))) (fun _ _ => rfl))), ?_⟩
    refine ⟨_, rfl, _, rfl, _, rfl, b, _, rfl, .inl (SqL.of hb), d, a, ns, k, (zs.map V.int).length, rfl, dr, by omega, by rw [List.length_map]; exact hz, fun H1 r b1 dr1 hr1 => ?_⟩
    rw [List.length_map] at hr1
    have e : (zs.map V.int)[r]? = some (V.int zs[r]) := by rw [List.getElem?_map, List.getElem?_eq_getElem hr1]; rfl
    exact ⟨b, _, _, _, rfl, rfl, SqL.of (b1 _ _ hbd hb), atI_nat e, q H1 _ b1 dr1 (List.getElem_mem hr1)⟩
theorem b_pick (T : Tx K mg A) : L2.Binds K A.d__law_pick ["draw", "things"] [] := T.F__law_pick.binds fun _ _ _ _ _ _ us hl => match us, hl with | [_, _], _ => rfl
def spArm (K : PySem.W.Frag) : Sp := fun vs H Q _ => ∃ (d a : Addr) (ns : List Int) (k : Nat), vs = [.ref d] ∧ DrAt K H d a ns k ∧ k < 50000 ∧
  ∀ (H' : Hp) (w : Nat), But d H H' → DrAt K H' d a ns (k + 1) → (1 ≤ w ∧ w ≤ 4) → Q (.int w) H'
theorem ok_arm (T : Tx K mg A) : FnOk P w K mg base CX0 5 A.f__law_arms A.d__law_arms ["draw"] (spArm K) := by
  refine T.F__law_arms.ok sc__law_arms (fun vs H Q E h => ?_) (fun cdv B outer s H vs Q E hr h => ?_)
  · obtain ⟨d, a, ns, k, rfl, _⟩ := h
    rfl
  · obtain ⟨d, a, ns, k, rfl, dr, hk, q⟩ := h
    refine ⟨_, pss_one (ps_ret (pe_call (ok_pick T) hr (by rfl) T.m__law_pick T.F__law_pick.kp (b_pick T) .nil pass0 (pa_cons (pv 0) (pa_cons (pe_lst (pa_cons pe_int (pa_cons pe_int (pa_cons pe_int (pa_cons pe_int (pa_cons pe_int (pa_cons pe_int pa_nil))))))) pa_nil)))), ?_⟩
    refine ⟨_, rfl, by show 6 ≤ sizeLine; decide, fun b hb => ?_⟩
    have hbd : b ≠ d := fun z => by rw [z, dr.l] at hb; cases hb
    refine ⟨d, a, b, ns, [2, 2, 2, 3, 1, 4], k, rfl, dr.same (Same.up hb), hk, upd_same, hbd, by decide, fun H1 z b1 dr1 hz => ?_⟩
    have h4 : 1 ≤ z ∧ z ≤ 4 := by
      simp only [List.mem_cons, List.not_mem_nil, or_false] at hz
      omega
    obtain ⟨w, rfl⟩ : ∃ w : Nat, z = (w : Int) := ⟨z.toNat, by omega⟩
    exact q H1 w ((But.of (Same.up hb)).trans b1) dr1 ⟨by omega, by omega⟩
theorem b_arm (T : Tx K mg A) : L2.Binds K A.d__law_arms ["draw"] [] := T.F__law_arms.binds fun _ _ _ _ _ _ us hl => match us, hl with | [_], _ => rfl
end
end Tw

set_option Elab.async false
set_option linter.all false
set_option maxRecDepth 100000
set_option maxHeartbeats 2000000
namespace Tw
open PySem PySem.Spec PyProof.Rows L2
section
variable {P : Program} {w : World} {K : PySem.W.Frag} {mg : Str → Option Value} {base : Heap} {A : Ad}
/-! a key goes up, a key goes down -/
def keyAt (ks : List Int) (p : Nat) : Int := ks.getD p 0
def swp (ks : List Int) (a b : Nat) : List Int := (ks.set a (keyAt ks b)).set b (keyAt ks a)
theorem swp_len (ks : List Int) (a b : Nat) : (swp ks a b).length = ks.length := by unfold swp; rw [List.length_set, List.length_set]
def goUp (w : Nat) : Nat → List Int → Nat → List Nat → Nat → List Int × List Nat × Nat
  | 0, ks, _, way, lk => (ks, way, lk)
  | f + 1, ks, p, way, lk => if p = 0 then (ks, way, lk) else
      if keyAt ks p < keyAt ks ((p - 1) / w) then goUp w f (swp ks p ((p - 1) / w)) ((p - 1) / w) (way ++ [(p - 1) / w]) (lk + 1) else (ks, way, lk + 1)
def leastC (ks : List Int) (l : List Nat) : Nat := l.getD (PySem.argBest (fun i j => decide (keyAt ks (l.getD i 0) < keyAt ks (l.getD j 0))) (l.length - 1)) 0
theorem least_of {ks : List Int} {l : List Nat} {j : Nat} (h : Cl.FirstLeast (fun i => keyAt ks (l.getD i 0)) l.length j) : l.getD j 0 = leastC ks l := by
  have h0 := h.1
  obtain ⟨n, en⟩ : ∃ n, l.length = n + 1 := ⟨l.length - 1, by omega⟩
  have b := Cl.best_is (fun i => keyAt ks (l.getD i 0)) n
  rw [← en] at b
  unfold leastC
  rw [Cl.first_one h b, show l.length - 1 = n by omega]
theorem least_mem {ks : List Int} {l : List Nat} (h : l ≠ []) : leastC ks l ∈ l := by
  obtain ⟨n, en⟩ : ∃ n, l.length = n + 1 := ⟨l.length - 1, by have := List.length_pos_iff.mpr h; omega⟩
  have b := Cl.best_is (fun i => keyAt ks (l.getD i 0)) n
  rw [← en] at b
  rw [← least_of b, List.getD_eq_getElem?_getD, List.getElem?_eq_getElem b.1]
  exact List.getElem_mem b.1
def goDown (n w : Nat) : Nat → List Int → Nat → List Nat → Nat → List Int × List Nat × Nat
  | 0, ks, _, way, lk => (ks, way, lk)
  | f + 1, ks, p, way, lk => if kidL n w p = [] then (ks, way, lk) else
      if keyAt ks (leastC ks (kidL n w p)) < keyAt ks p then goDown n w f (swp ks p (leastC ks (kidL n w p))) (leastC ks (kidL n w p)) (way ++ [leastC ks (kidL n w p)]) (lk + (kidL n w p).length)
      else (ks, way, lk + (kidL n w p).length)
theorem up_chain : ∀ w, w < 5 → ∀ p, p < 13 → 1 ≤ w → ∀ i, i < (upL w p).length - 1 → (upL w p).getD i 0 ≠ 0 ∧ ((upL w p).getD i 0 - 1) / w = (upL w p).getD (i + 1) 0 := by decide +kernel
theorem up_ends : ∀ w, w < 5 → ∀ p, p < 13 → 1 ≤ w → (upL w p).getD ((upL w p).length - 1) 0 = 0 ∧ 1 ≤ (upL w p).length ∧ (upL w p).getD 0 0 = p ∧ ∀ i, i < (upL w p).length → (upL w p).getD i 0 ≤ p := by decide +kernel
theorem kid_len : ∀ n, n < 13 → ∀ w, w < 5 → ∀ i, i < n → 1 ≤ w → (kidL n w i).length ≤ 4 := by decide +kernel
theorem kid_in {n w i j : Nat} (hw : 1 ≤ w) (h : j ∈ kidL n w i) : i < j ∧ j < n := by
  unfold kidL at h
  obtain ⟨k, hk, rfl⟩ := List.mem_map.mp h
  obtain ⟨h1, h2⟩ := List.mem_filter.mp hk
  have h1 := List.mem_range.mp h1
  have h2 := of_decide_eq_true h2
  have : k / w ≤ k := Nat.div_le_self _ _
  omega
theorem up_res (w : Nat) : ∀ f ks p way lk, (goUp w f ks p way lk).1.length = ks.length
  | 0, ks, p, way, lk => rfl
  | f + 1, ks, p, way, lk => by
    unfold goUp
    split
    · rfl
    · split
      · rw [up_res w f, swp_len]
      · rfl
theorem down_res (n w : Nat) : ∀ f ks p way lk, (goDown n w f ks p way lk).1.length = ks.length
  | 0, ks, p, way, lk => rfl
  | f + 1, ks, p, way, lk => by
    unfold goDown
    split
    · rfl
    · split
      · rw [down_res n w f, swp_len]
      · rfl
/-! what a sift tells -/
theorem m1 : ¬ (("row" : Str) = "way") := by decide +kernel
theorem m2 : ¬ (("row" : Str) = "looks") := by decide +kernel
theorem m3 : ¬ (("way" : Str) = "looks") := by decide +kernel
def zf (t1 t2 lk : Nat) : List (Str × V) := putF "looks" (.int lk) (putF "way" (.ref t2) (putF "row" (.ref t1) []))
theorem zf_row (t1 t2 lk : Nat) : (zf t1 t2 lk).lookup ("row" : Str) = some (.ref t1) := by
  unfold zf
  rw [lookup_putF, if_neg m2, lookup_putF, if_neg m1, lookup_putF, if_pos rfl]
theorem zf_way (t1 t2 lk : Nat) : (zf t1 t2 lk).lookup ("way" : Str) = some (.ref t2) := by
  unfold zf
  rw [lookup_putF, if_neg m3, lookup_putF, if_pos rfl]
theorem zf_looks (t1 t2 lk : Nat) : (zf t1 t2 lk).lookup ("looks" : Str) = some (.int lk) := by
  unfold zf
  rw [lookup_putF, if_pos rfl]
/-- a Sift stands at p -/
def SiftAt (C : Addr) (H : Hp) (p : Addr) (ks ws : List Int) (lk : Nat) : Prop := ∃ (dx t1 t2 : Addr), H p = some (.ins C dx (zf t1 t2 lk)) ∧ H t1 = some (.tup (ks.map V.int)) ∧ H t2 = some (.tup (ws.map V.int))
theorem SiftAt.ext {C : Addr} {H H' : Hp} {p : Addr} {ks ws : List Int} {lk : Nat} (h : SiftAt C H p ks ws lk) (e : ∀ b o, H b = some o → (∀ ps, o ≠ .tbl ps) → H' b = some o) : SiftAt C H' p ks ws lk := by
  obtain ⟨dx, t1, t2, a, b, c⟩ := h
  exact ⟨dx, t1, t2, e _ _ a (fun ps z => nomatch z), e _ _ b (fun ps z => nomatch z), e _ _ c (fun ps z => nomatch z)⟩
theorem SiftAt.same {C : Addr} {H H' : Hp} {p : Addr} {ks ws : List Int} {lk : Nat} (h : SiftAt C H p ks ws lk) (s : Same H H') : SiftAt C H' p ks ws lk := h.ext fun b o e _ => s b o e
def spZi (C : Addr) : Sp := fun vs H Q _ => ∃ (p dx a b lk : Nat) (ks ws : List Int), vs = [.ref p, .ref a, .ref b, .int lk] ∧ H p = some (.ins C dx []) ∧ Sq H a (ks.map V.int) ∧ Sq H b (ws.map V.int) ∧ 
  ∀ (H' : Hp), (∀ b o, H b = some o → b ≠ p → H' b = some o) → SiftAt C H' p ks ws lk → Q .non H'
theorem ok_zi (T : Tx K mg A) : FnOk P w K mg base CX0 2 A.f_z___init__ A.d_z___init__ ["self", "row", "way", "looks"] (spZi A.CS) := by
  refine T.F_z___init__.ok sc_z___init__ (fun vs H Q E h => ?_) (fun cdv B outer s H vs Q E hr h => ?_)
  · obtain ⟨p, dx, a, b, lk, ks, ws, rfl, _⟩ := h
    rfl
  · obtain ⟨p, dx, a, b, lk, ks, ws, rfl, hp, ha, hb, q⟩ := h
    refine ⟨_, C8.pss_cut (ps_fld (pv 0) (pe_callTy call_tuple_of (by rfl) T.g_tuple (by decide +kernel) (pa_cons (pv 1) pa_nil)) rfl)
      (C8.pss_cut (ps_fld (pv 0) (pe_callTy call_tuple_of (by rfl) T.g_tuple (by decide +kernel) (pa_cons (pv 2) pa_nil)) rfl)
      (pss_one (ps_fld (pv 0) (pv 3) rfl))), ?_⟩
    have npa : p ≠ a := fun z => by rcases ha with h | h <;> rw [← z, hp] at h <;> cases h
    have npb : p ≠ b := fun z => by rcases hb with h | h <;> rw [← z, hp] at h <;> cases h
    refine ⟨fun σ H' => ∃ t1 : Addr, σ = L2.start ["self", "row", "way", "looks"] [.ref p, .ref a, .ref b, .int lk] ∧ (∀ c o, H c = some o → c ≠ p → H' c = some o) ∧ H' p = some (.ins A.CS dx (putF "row" (.ref t1) [])) ∧ H' t1 = some (.tup (ks.map V.int)) ∧ t1 ≠ p, ?_, ?_⟩
    · have go : ∀ (H1 : Hp) (t1 : Addr), Same H H1 → H1 t1 = some (.tup (ks.map V.int)) → ∃ t2 : Addr, (L2.start ["self", "row", "way", "looks"] [.ref p, .ref a, .ref b, .int lk]) = L2.start ["self", "row", "way", "looks"] [.ref p, .ref a, .ref b, .int lk] ∧ (∀ c o, H c = some o → c ≠ p → upd H1 p (.ins A.CS dx (putF "row" (.ref t1) [])) c = some o) ∧ upd H1 p (.ins A.CS dx (putF "row" (.ref t1) [])) p = some (.ins A.CS dx (putF "row" (.ref t2) [])) ∧ upd H1 p (.ins A.CS dx (putF "row" (.ref t1) [])) t2 = some (.tup (ks.map V.int)) ∧ t2 ≠ p := fun H1 t1 s1 e1 => by
        have n1 : t1 ≠ p := fun z => by rw [z, s1 _ _ hp] at e1; cases e1
        exact ⟨t1, rfl, fun c o e n => by rw [upd_ne n]; exact s1 _ _ e, upd_same, by rw [upd_ne n1]; exact e1, n1⟩
      rcases ha with h | h
      · exact ⟨_, rfl, a, _, rfl, .inl ⟨SqL.of h, fun t1 ht1 => ⟨_, rfl, p, A.CS, dx, _, rfl, (Same.up ht1) _ _ hp, T.cTS, T.nRow, (by show 0 < 1000; decide), go _ t1 (Same.up ht1) upd_same⟩⟩⟩
      · exact ⟨_, rfl, a, _, rfl, .inr ⟨SqT.of h, _, rfl, p, A.CS, dx, _, rfl, hp, T.cTS, T.nRow, (by show 0 < 1000; decide), go H a (Same.refl _) h⟩⟩
    rintro σ H1 ⟨t1, rfl, k1, hp1, e1, n1⟩
    have hb1 : Sq H1 b (ws.map V.int) := hb.elim (fun h => .inl (k1 _ _ h npb.symm)) fun h => .inr (k1 _ _ h npb.symm)
    refine ⟨fun σ H' => ∃ t2 : Addr, σ = L2.start ["self", "row", "way", "looks"] [.ref p, .ref a, .ref b, .int lk] ∧ (∀ c o, H1 c = some o → c ≠ p → H' c = some o) ∧ H' p = some (.ins A.CS dx (putF "way" (.ref t2) (putF "row" (.ref t1) []))) ∧ H' t2 = some (.tup (ws.map V.int)) ∧ t2 ≠ p, ?_, ?_⟩
    · have go : ∀ (H2 : Hp) (t2 : Addr), Same H1 H2 → H2 t2 = some (.tup (ws.map V.int)) → ∃ t3 : Addr, (L2.start ["self", "row", "way", "looks"] [.ref p, .ref a, .ref b, .int lk]) = L2.start ["self", "row", "way", "looks"] [.ref p, .ref a, .ref b, .int lk] ∧ (∀ c o, H1 c = some o → c ≠ p → upd H2 p (.ins A.CS dx (putF "way" (.ref t2) (putF "row" (.ref t1) []))) c = some o) ∧ upd H2 p (.ins A.CS dx (putF "way" (.ref t2) (putF "row" (.ref t1) []))) p = some (.ins A.CS dx (putF "way" (.ref t3) (putF "row" (.ref t1) []))) ∧ upd H2 p (.ins A.CS dx (putF "way" (.ref t2) (putF "row" (.ref t1) []))) t3 = some (.tup (ws.map V.int)) ∧ t3 ≠ p := fun H2 t2 s2 e2 => by
        have n2 : t2 ≠ p := fun z => by rw [z, s2 _ _ hp1] at e2; cases e2
        exact ⟨t2, rfl, fun c o e n => by rw [upd_ne n]; exact s2 _ _ e, upd_same, by rw [upd_ne n2]; exact e2, n2⟩
      rcases hb1 with h | h
      · exact ⟨_, rfl, b, _, rfl, .inl ⟨SqL.of h, fun t2 ht2 => ⟨_, rfl, p, A.CS, dx, _, rfl, (Same.up ht2) _ _ hp1, T.cTS, T.nWay, (by show 1 < 1000; decide), go _ t2 (Same.up ht2) upd_same⟩⟩⟩
      · exact ⟨_, rfl, b, _, rfl, .inr ⟨SqT.of h, _, rfl, p, A.CS, dx, _, rfl, hp1, T.cTS, T.nWay, (by show 1 < 1000; decide), go H1 b (Same.refl _) h⟩⟩
    rintro σ H2 ⟨t2, rfl, k2, hp2, e2, n2⟩
    refine ⟨_, rfl, _, rfl, p, A.CS, dx, _, rfl, hp2, T.cTS, T.nLooks, (by simp only [putF, m1, if_false]; show 2 < 1000; decide), ?_⟩
    refine q _ (fun c o e hc => ?_) ⟨dx, t1, t2, upd_same, ?_, ?_⟩
    · rw [upd_ne hc]
      exact k2 _ _ (k1 _ _ e hc) hc
    · rw [upd_ne n1]
      exact k2 _ _ e1 n1
    · rw [upd_ne n2]
      exact e2
theorem b_zi (T : Tx K mg A) : L2.Binds K A.d_z___init__ ["self", "row", "way", "looks"] [] := T.F_z___init__.binds fun _ _ _ _ _ _ us hl => match us, hl with | [_, _, _, _], _ => rfl
theorem ints_tup (K : PySem.W.Frag) {H : Hp} {a : Addr} {ks : List Int} (h : H a = some (.tup (ks.map V.int))) : Dp K H (.ref a) (.tuple (ks.map PyData.int)) := .tup (SqT.of h) (ints_dp K H ks)
theorem ints_shT (ks : List Int) : SeqAt.shaped (.tuple (ks.map PyData.int)) = true := by
  have h := shaped_ints ks
  unfold SeqAt.shaped at h ⊢
  simp only [PyData.canLay0, PyData.depth] at h ⊢
  exact h
theorem ints_all : ∀ ks ms : List Int, PyData.eqvAll (ks.map PyData.int) (ms.map PyData.int) = decide (ks = ms)
  | [], [] => by simp [PyData.eqvAll]
  | [], m :: ms => by simp [PyData.eqvAll]
  | k :: ks, [] => by simp [PyData.eqvAll]
  | k :: ks, m :: ms => by
    simp only [List.map_cons, PyData.eqvAll, ints_all ks ms, PyData.eqv]
    by_cases h1 : k = m
    · by_cases h2 : ks = ms <;> simp [h1, h2]
    · simp [h1]
theorem ints_eqv (ks ms : List Int) : PyData.eqv (.tuple (ks.map PyData.int)) (.tuple (ms.map PyData.int)) = decide (ks = ms) := by
  rw [← ints_all]
  simp [PyData.eqv]
end
end Tw

set_option Elab.async false
set_option linter.all false
set_option maxRecDepth 100000
set_option maxHeartbeats 2000000
namespace Tw
open PySem PySem.Spec PyProof.Rows L2
section
variable {P : Program} {w : World} {K : PySem.W.Frag} {mg : Str → Option Value} {base : Heap} {A : Ad}
/-- least_child -/
def spLc (K : PySem.W.Frag) (A : Ad) : Sp := fun vs H Q _ => ∃ (l a : Addr) (ks ns : List Int), vs = [.ref l, .ref a] ∧ SqL K H l (ks.map V.int) ∧ SqT K H a (ns.map V.int) ∧ 0 < ns.length ∧ (∀ n ∈ ns, 0 ≤ n ∧ n < ks.length) ∧ LamX.Tabs (TT A) H ∧
  ∀ (m : Int) (H' : Hp), LamX.ExtN H H' → LamX.Tabs (TT A) H' → Cl.LeastAt ks ns m → Q (.int m) H'
theorem ok_lc (T : Tx K mg A) (TB : LamX.TabB base mg A.c_least_child A.P_least_child) : FnOk P w K mg base CX0 2 A.f_least_child A.d_least_child ["keys", "children"] (spLc K A) := by
  obtain ⟨oc, od, kV, doc, pm, an, ct, osl, ed, lk, hcd⟩ := T.L_least_child
  rw [ed] at lk ⊢
  refine fn_of lk hcd sc_least_child (fun vs H Q E h => ?_) (fun B outer s H vs Q E hr h => ?_)
  · obtain ⟨l, a, ks, ns, rfl, _⟩ := h
    rfl
  · obtain ⟨l, a, ks, ns, rfl, hl, ha, hne, hin, hT, q⟩ := h
    refine ⟨_, PSs.nox (pss_one (ps_ret (Cl.pe_minlam (T := TT A) (x := "place") (y := "keys") (j := 0) (by rfl) T.g_min (pv 1) hr.depth hr.hd TB rfl (List.mem_singleton.mpr rfl) (fun p hp _ => by rw [List.mem_singleton.mp hp]; rfl)
      ⟨rfl, rfl, rfl, by decide +kernel, by decide +kernel, by decide +kernel⟩ (show (defScope s_least_child).names.lookup ("keys" : Str) = some NameKind.cell by decide +kernel) (by decide +kernel) rfl rfl (fun _ _ _ _ _ _ => rfl)))), ?_⟩
    exact ⟨_, rfl, a, l, ns, ks, rfl, ha, rfl, hl, hne, hin, hT, fun m H2 e t lm => q m H2 e t lm⟩
theorem b_lc (T : Tx K mg A) : L2.Binds K A.d_least_child ["keys", "children"] [] := T.F_least_child.binds fun _ _ _ _ _ _ us hl => match us, hl with | [_, _], _ => rfl

end
end Tw

set_option Elab.async false
set_option linter.all false
set_option maxRecDepth 100000
set_option maxHeartbeats 2000000
namespace Tw
open PySem PySem.Spec PyProof.Rows L2
section
variable {P : Program} {w : World} {K : PySem.W.Frag} {mg : Str → Option Value} {base : Heap} {A : Ad}
/-! going up -/
def wz (l : List Nat) : List Int := l.map fun i => ((i : Nat) : Int)
theorem vi_wz (l : List Nat) : vi l = (wz l).map V.int := vi_ints l
/-- two lists of one's own -/
structure Two (H : Hp) (D W : Addr) (xs ys : List V) (H' : Hp) : Prop where
  s : Same H H'
  d : H' D = some (.lst xs)
  w : H' W = some (.lst ys)
  nD : H D = Option.none
  nW : H W = Option.none
  ne : D ≠ W
theorem Two.setD {H H' : Hp} {D W : Addr} {xs ys zs : List V} (h : Two H D W xs ys H') : Two H D W zs ys (upd H' D (.lst zs)) :=
  ⟨fun b o e => by rw [upd_ne (ne_of_none e h.nD)]; exact h.s _ _ e, upd_same, by rw [upd_ne h.ne.symm]; exact h.w, h.nD, h.nW, h.ne⟩
theorem Two.setW {H H' : Hp} {D W : Addr} {xs ys zs : List V} (h : Two H D W xs ys H') : Two H D W xs zs (upd H' W (.lst zs)) :=
  ⟨fun b o e => by rw [upd_ne (ne_of_none e h.nW)]; exact h.s _ _ e, by rw [upd_ne h.ne]; exact h.d, upd_same, h.nD, h.nW, h.ne⟩
theorem Two.same {H H' H2 : Hp} {D W : Addr} {xs ys : List V} (h : Two H D W xs ys H') (s : Same H' H2) : Two H D W xs ys H2 := ⟨h.s.trans s, s _ _ h.d, s _ _ h.w, h.nD, h.nW, h.ne⟩
theorem key_at {ks : List Int} {p : Nat} (h : p < ks.length) : atI (ks.map V.int) (p : Int) = some (V.int (keyAt ks p)) := by
  have e : (ks.map V.int)[p]? = some (V.int (keyAt ks p)) := by
    unfold keyAt
    rw [List.getElem?_map, List.getD_eq_getElem?_getD, List.getElem?_eq_getElem h]
    rfl
  exact atI_nat e
theorem ixN_nat {n p : Nat} (h : p < n) : ixN n (p : Int) = some p := by
  unfold ixN
  rw [if_pos (by omega), if_pos (by omega), Int.toNat_natCast]
theorem last_at {xs : List V} {y : V} : atI (xs ++ [y]) (-1) = some y := by
  unfold atI ixN
  rw [if_neg (by omega), if_pos (by simp; omega), show ((-1 : Int) + ((xs ++ [y]).length : Nat)).toNat = xs.length by rw [List.length_append, List.length_singleton]; omega]
  simp
theorem set_int (ks : List Int) (p : Nat) (v : Int) : (ks.map V.int).set p (V.int v) = (ks.set p v).map V.int := (List.map_set ..).symm
theorem cut_last (xs : List V) (h : xs ≠ []) : cutV xs none (some (-1)) = xs.take (xs.length - 1) ∧ ¬ (HT.sIx xs.length 0 none = 0 ∧ HT.sIx xs.length xs.length (some (-1)) = xs.length) := by
  have hl := List.length_pos_iff.mpr h
  have e : HT.sIx xs.length xs.length (some (-1)) = xs.length - 1 := by
    unfold HT.sIx
    simp
    try omega
  have e0 : HT.sIx xs.length 0 none = 0 := rfl
  refine ⟨?_, fun z => ?_⟩
  · unfold cutV
    rw [e, e0]
    simp
  · rw [e] at z
    omega
theorem rev_at {U : List Nat} {i : Nat} (h : i + 1 < U.length) : ((U.reverse).take (U.length - 1))[(U.length - 1) - 1 - i]? = some (U.getD (i + 1) 0) := by
  rw [List.getElem?_take_of_lt (by omega), List.getElem?_reverse (by omega), List.getD_eq_getElem?_getD, show U.length - 1 - (U.length - 1 - 1 - i) = i + 1 by omega, List.getElem?_eq_getElem h]
  rfl
def resSift (C : Addr) (H : Hp) (q : Addr) (r : List Int × List Nat × Nat) : Prop := SiftAt C H q r.1 (wz r.2.1) r.2.2
theorem goUp_stay {w f : Nat} {ks : List Int} {p : Nat} {way : List Nat} {lk : Nat} (h0 : p ≠ 0) (h : ¬ keyAt ks p < keyAt ks ((p - 1) / w)) : goUp w (f + 1) ks p way lk = (ks, way, lk + 1) := by
  rw [goUp, if_neg h0, if_neg h]
theorem goUp_go {w f : Nat} {ks : List Int} {p : Nat} {way : List Nat} {lk : Nat} (h0 : p ≠ 0) (h : keyAt ks p < keyAt ks ((p - 1) / w)) : goUp w (f + 1) ks p way lk = goUp w f (swp ks p ((p - 1) / w)) ((p - 1) / w) (way ++ [(p - 1) / w]) (lk + 1) := by
  rw [goUp, if_neg h0, if_pos h]
theorem goUp_root {w f : Nat} {ks : List Int} {way : List Nat} {lk : Nat} : goUp w f ks 0 way lk = (ks, way, lk) := by
  cases f with
  | zero => rfl
  | succ f => rw [goUp, if_pos rfl]
end
end Tw

set_option Elab.async false
set_option linter.all false
set_option maxRecDepth 100000
set_option maxHeartbeats 2000000
namespace Tw
open PySem PySem.Spec PyProof.Rows L2
section
variable {P : Program} {w : World} {K : PySem.W.Frag} {mg : Str → Option Value} {base : Heap} {A : Ad}
/-! going down -/
open LamX (ExtN Tabs TabS)
theorem extN_of {H H' : Hp} (s : Same H H') : ExtN H H' := fun b o e _ => s b o e
theorem tabs_upd {T : List (Addr × Str)} {H : Hp} {D : Addr} {xs : List V} {o : HO} (t : Tabs T H) (h : H D = some (.lst xs)) : Tabs T (upd H D o) := fun p hp => by
  obtain ⟨ps, h1, h2, h3⟩ := t p hp
  refine ⟨ps, by rw [upd_ne (ne_of h1 h (by intro z; cases z))]; exact h1, h2, fun pos cv hc => ?_⟩
  obtain ⟨c, e1, e2⟩ := h3 pos cv hc
  exact ⟨c, e1, by rw [upd_ne (ne_of e2 h (by intro z; unfold LamX.CodeO at z; cases z))]; exact e2⟩
/-- two lists of one's own, where code may be made -/
structure TwoE (T : List (Addr × Str)) (H : Hp) (D W : Addr) (xs ys : List V) (H' : Hp) : Prop where
  e : ExtN H H'
  t : Tabs T H'
  d : H' D = some (.lst xs)
  w : H' W = some (.lst ys)
  nD : H D = Option.none
  nW : H W = Option.none
  ne : D ≠ W
section
variable {T : List (Addr × Str)} {H H' H2 : Hp} {D W : Addr} {xs ys zs : List V}
theorem TwoE.setD (h : TwoE T H D W xs ys H') : TwoE T H D W zs ys (upd H' D (.lst zs)) :=
  ⟨fun b o e n => by rw [upd_ne (ne_of_none e h.nD)]; exact h.e _ _ e n, tabs_upd h.t h.d, upd_same, by rw [upd_ne h.ne.symm]; exact h.w, h.nD, h.nW, h.ne⟩
theorem TwoE.setW (h : TwoE T H D W xs ys H') : TwoE T H D W xs zs (upd H' W (.lst zs)) :=
  ⟨fun b o e n => by rw [upd_ne (ne_of_none e h.nW)]; exact h.e _ _ e n, tabs_upd h.t h.w, by rw [upd_ne h.ne]; exact h.d, upd_same, h.nD, h.nW, h.ne⟩
theorem TwoE.same (h : TwoE T H D W xs ys H') (s : Same H' H2) : TwoE T H D W xs ys H2 := ⟨h.e.trans (extN_of s), h.t.ext s, s _ _ h.d, s _ _ h.w, h.nD, h.nW, h.ne⟩
theorem TwoE.ext (h : TwoE T H D W xs ys H') (e : ExtN H' H2) (t : Tabs T H2) : TwoE T H D W xs ys H2 := ⟨h.e.trans e, t, e _ _ h.d (fun ps z => nomatch z), e _ _ h.w (fun ps z => nomatch z), h.nD, h.nW, h.ne⟩
end
theorem TreeAt.ext {C : Addr} {H H' : Hp} {p n w : Nat} (h : TreeAt C H p n w) (e : ExtN H H') : TreeAt C H' p n w :=
  ⟨let ⟨dx, t, a, b⟩ := h.ob; ⟨dx, t, e _ _ a (fun ps z => nomatch z), e _ _ b (fun ps z => nomatch z)⟩, h.hn, h.hw⟩
theorem Sq.ext {H H' : Hp} {a : Addr} {xs : List V} (h : Sq H a xs) (e : ExtN H H') : Sq H' a xs := h.elim (fun x => .inl (e _ _ x (fun ps z => nomatch z))) fun x => .inr (e _ _ x (fun ps z => nomatch z))
theorem RowIn.ext {H H' : Hp} {a : Addr} {ns : List Int} (h : RowIn H a ns) (e : ExtN H H') : RowIn H' a ns := ⟨h.1.ext e, h.2⟩
theorem wz_get (l : List Nat) (i : Nat) : (wz l).getD i 0 = ((l.getD i 0 : Nat) : Int) := by
  unfold wz
  rw [List.getD_eq_getElem?_getD, List.getD_eq_getElem?_getD, List.getElem?_map]
  cases l[i]? <;> rfl
theorem least_wz {ks : List Int} {l : List Nat} {m : Int} (h : Cl.LeastAt ks (wz l) m) : m = ((leastC ks l : Nat) : Int) := by
  obtain ⟨j, fl, e⟩ := h
  rw [wz_get] at e
  have hl : (wz l).length = l.length := by unfold wz; rw [List.length_map]
  have ef : (fun i => ks.getD ((wz l).getD i 0).toNat 0) = fun i => keyAt ks (l.getD i 0) := by
    funext i
    rw [wz_get, Int.toNat_natCast]
    rfl
  rw [hl, ef] at fl
  rw [e, least_of fl]
theorem goDown_leaf {n w f : Nat} {ks : List Int} {p : Nat} {way : List Nat} {lk : Nat} (h : kidL n w p = []) : goDown n w f ks p way lk = (ks, way, lk) := by
  cases f with
  | zero => rfl
  | succ f => rw [goDown, if_pos h]
theorem goDown_stay {n w f : Nat} {ks : List Int} {p : Nat} {way : List Nat} {lk : Nat} (h0 : kidL n w p ≠ []) (h : ¬ keyAt ks (leastC ks (kidL n w p)) < keyAt ks p) : goDown n w (f + 1) ks p way lk = (ks, way, lk + (kidL n w p).length) := by
  rw [goDown, if_neg h0, if_neg h]
theorem goDown_go {n w f : Nat} {ks : List Int} {p b : Nat} {way : List Nat} {lk : Nat} (h0 : kidL n w p ≠ []) (eb : leastC ks (kidL n w p) = b) (h : keyAt ks b < keyAt ks p) :
    goDown n w (f + 1) ks p way lk = goDown n w f (swp ks p b) b (way ++ [b]) (lk + (kidL n w p).length) := by
  rw [goDown, if_neg h0, eb, if_pos h]
def muW (σ : L2.St) (H : Hp) : Nat := match σ[6]? with
  | some (some (V.ref W)) => (match H W with | some (.lst xs) => 40 - xs.length | _ => 0)
  | _ => 0
theorem muW_at {σ : L2.St} {H : Hp} {W : Addr} {xs : List V} (h : σ[6]? = some (some (V.ref W))) (hw : H W = some (.lst xs)) : muW σ H = 40 - xs.length := by
  unfold muW
  rw [h]
  show (match H W with | some (.lst xs) => 40 - xs.length | _ => 0) = _
  rw [hw]
def spDown (A : Ad) : Sp := fun vs H Q _ => ∃ (r p w : Nat) (ks : List Int), vs = [.ref r, .int p, .int w] ∧ (1 ≤ w ∧ w ≤ 4) ∧ RowIn H r ks ∧ p < ks.length ∧ Tabs (TT A) H ∧
  ∀ (H' : Hp) (q : Addr), ExtN H H' → Tabs (TT A) H' → resSift A.CS H' q (goDown ks.length w 20 ks p [p] 0) → Q (.ref q) H'
theorem ok_down (T : Tx K mg A) (TB : LamX.TabB base mg A.c_least_child A.P_least_child) : FnOk P w K mg base CX0 7 A.f_sift_down A.d_sift_down ["row", "place", "arms"] (spDown A) := by
  obtain ⟨mo, ko⟩ := kb_of T
  refine T.F_sift_down.ok sc_sift_down (fun vs H Q E h => ?_) (fun cdv B outer s H vs Q E hr h => ?_)
  · obtain ⟨r, p, w, ks, rfl, _⟩ := h
    rfl
  · obtain ⟨r, p, w, ks, rfl, hw, hrow, hp, hT, q⟩ := h
    have nd := sc_sift_down.nd
    refine ⟨_, PSs.nox (pss_cons (ps_set (i := 3) nd rfl (Or.inl rfl) (pe_cmethK (pe_glob (v := .ref A.C) (by rfl) T.mC (relR _)) T.cr T.cof (ok_of T) hr ko pass0 (pa_cons (pv 0) pa_nil) (pk_cons (pv 2) pk_nil)))
      (pss_cons (ps_set (i := 4) nd rfl (Or.inl rfl) (pe_gi T.D_t___getitem__ (ok_gi T) (hr.mono (by decide)) (b_gi T) pass0 (pv 3) (pv 1)))
      (pss_cons (ps_set (i := 5) nd rfl (Or.inl rfl) (pe_callTy call_list_of (by rfl) T.g_list (by decide +kernel) (pa_cons (pv 0) pa_nil)))
      (pss_cons (ps_set (i := 6) nd rfl (Or.inl rfl) (pe_lst (pa_cons (pv 1) pa_nil)))
      (pss_cons (ps_set (i := 7) nd rfl (Or.inl rfl) pe_int)
      (C8.pss_cut (ps_while PassesOwn.never (pt_truth (pv 4) (fun _ => rfl)) (pss_cons (ps_set (i := 8) nd rfl (Or.inl rfl) (pe_ix ix_list (pv 6) (pe_un un_neg pe_int) (fun _ _ => rfl)))
      (pss_cons (ps_aug (i := 7) nd rfl (Or.inl rfl) (pe_callB call_len_seq (by rfl) T.g_len PySem.boot_len (pa_cons (pv 4) pa_nil)) ip_add)
      (pss_cons (ps_set (i := 9) nd rfl (Or.inl rfl) (pe_call (ok_lc T TB) (hr.mono (by decide)) (by rfl) T.m_least_child T.F_least_child.kp (b_lc T) .nil pass0 (pa_cons (pv 5) (pa_cons (pv 4) pa_nil))))
      (pss_cons (ps_if (pt_cmpR op_le (pe_ix ix_list (pv 5) (pv 8) (fun _ _ => rfl)) (pe_ix ix_list (pv 5) (pv 9) (fun _ _ => rfl)) (nomark _)) (pss_one ps_break) pss_nil)
      (pss_cons (ps_asg (pe_tup (pa_cons (pe_ix ix_list (pv 5) (pv 9) (fun _ _ => rfl)) (pa_cons (pe_ix ix_list (pv 5) (pv 8) (fun _ _ => rfl)) pa_nil))) (pg_tup rfl (pgs_cons (pg_sub (pv 5) (pv 8) set_list) (pgs_cons (pg_sub (pv 5) (pv 9) set_list) pgs_nil))))
      (pss_cons (ps_expr (pe_bm PySem.F.plainAttrs_list PySem.F.slot_list_append PySem.F.type_list_append mt_append (pv 6) (pa_cons (pv 9) pa_nil)))
      (pss_one (ps_set (i := 4) nd rfl (Or.inl rfl) (pe_gi T.D_t___getitem__ (ok_gi T) (hr.mono (by decide)) (b_gi T) pass0 (pv 3) (pv 9)))))))))))
      (pss_one (ps_ret (pe_make T.mkCS (ok_zi T) (hr.mono (by decide)) (by rfl) T.mCS (b_zi T) .nil pass0 (pa_cons (pv 5) (pa_cons (pv 6) (pa_cons (pv 7) pa_nil)))))))))))), ?_⟩
    refine ⟨rfl, _, rfl, _, rfl, rfl, rfl, r, w, ks, rfl, hw, hrow.1, hrow.2.1, hrow.2.2, fun H1 tr s1 p0 t1 => ?_⟩
    obtain ⟨dx, l, h1, h2⟩ := t1.ob
    have hk12 := hrow.2.1
    refine ⟨_, rfl, _, rfl, tr, dx, _, rfl, h1, tr, ks.length, w, p, rfl, t1, hp, fun H2 ch s2 hch => ?_⟩
    rw [kids_eq, kids_same ks.length (by omega) w (by omega) p hp hw.1] at hch
    have s12 : Same H H2 := s1.trans s2
    refine ⟨_, rfl, r, _, rfl, (hrow.1.same s12).len, fun D nD => ?_⟩
    refine ⟨_, rfl, by show 1 ≤ sizeLine; decide, fun W nW => ?_⟩
    have nDW : D ≠ W := ne_of_none (upd_same (H := H2) (a := D)) nW
    have s24 : Same H2 (upd (upd H2 D (.lst (ks.map V.int))) W (.lst [V.int (p : Nat)])) := (Same.up nD).trans (Same.up nW)
    have two0 : TwoE (TT A) H2 D W (ks.map V.int) (vi ([] ++ [p])) (upd (upd H2 D (.lst (ks.map V.int))) W (.lst [V.int (p : Nat)])) :=
      ⟨extN_of s24, (hT.ext s12).ext s24, by rw [upd_ne nDW]; exact upd_same, upd_same, nD, (Same.up nD).free nW, nDW⟩
    have hch4 := s24 _ _ hch
    generalize upd (upd H2 D (.lst (ks.map V.int))) W (.lst [V.int (p : Nat)]) = H4 at two0 hch4
    have t2 := t1.same s2
    generalize en : ks.length = n at *
    refine ⟨fun σ' H' => ∃ (x4 x8 x9 : Option V), σ' = [some (.ref r), some (.int p), some (.int w), some (.ref tr), x4, some (.ref D), some (.ref W), some (.int ((goDown n w 20 ks p [p] 0).2.2 : Nat)), x8, x9] ∧ TwoE (TT A) H2 D W ((goDown n w 20 ks p [p] 0).1.map V.int) (vi (goDown n w 20 ks p [p] 0).2.1) H', ?_, ?_⟩
    · refine while_by (fun σ' H' => ∃ (f : Nat) (ks' : List Int) (cur : Nat) (way : List Nat) (lk : Nat) (x8 x9 : Option V) (ch : Addr), σ' = [some (.ref r), some (.int p), some (.int w), some (.ref tr), some (.ref ch), some (.ref D), some (.ref W), some (.int lk), x8, x9] ∧
        TwoE (TT A) H2 D W (ks'.map V.int) (vi (way ++ [cur])) H' ∧ H' ch = some (.tup (vi (kidL n w cur))) ∧ cur < n ∧ ks'.length = n ∧ way.length + f = 20 ∧ n - cur < f ∧ goDown n w 20 ks p [p] 0 = goDown n w f ks' cur (way ++ [cur]) lk) muW ?_ ?_ ?_
      · exact ⟨20, ks, p, [], 0, none, none, ch, rfl, two0, hch4, hp, en, rfl, by omega, rfl⟩
      · rintro σ' H' ⟨f, ks', cur, way, lk, x8, x9, ch', rfl, two, hch', hcur, hkl, hwf, hf, eg⟩
        refine ⟨_, rfl, !(vi (kidL n w cur)).isEmpty, .inr (.inl ⟨_, SqT.of hch', rfl⟩), ?_⟩
        obtain ⟨f, rfl⟩ : ∃ f', f = f' + 1 := ⟨f - 1, by omega⟩
        have hlast : atI (vi (way ++ [cur])) (-1) = some (V.int ((cur : Nat) : Int)) := by
          rw [vi_app]
          exact last_at
        have hmu0 : muW [some (.ref r), some (.int p), some (.int w), some (.ref tr), some (.ref ch'), some (.ref D), some (.ref W), some (.int lk), x8, x9] H' = 40 - (way.length + 1) := by
          rw [muW_at rfl two.w, vi_len, List.length_append]
          rfl
        by_cases hk0 : kidL n w cur = []
        · rw [hk0]
          refine iteF ?_
          rw [goDown_leaf hk0] at eg
          rw [eg]
          exact ⟨_, _, _, rfl, two⟩
        · have e0 : (!(vi (kidL n w cur)).isEmpty) = true := by
            cases e : kidL n w cur with
            | nil => exact absurd e hk0
            | cons a b => rfl
          rw [e0]
          refine iteT ?_
          have hmem := least_mem (ks := ks') hk0
          have hk4 := kid_len n (by omega) w (by omega) cur hcur hw.1
          obtain ⟨hb1, hb2⟩ := kid_in hw.1 hmem
          refine ⟨_, rfl, _, rfl, W, _, _, _, rfl, rfl, SqL.of two.w, hlast, ?_⟩
          refine ⟨_, rfl, _, rfl, ch', _, rfl, .inr (SqT.of hch'), _, _, rfl, rfl, ?_⟩
          refine ⟨_, rfl, _, rfl, D, ch', ks', wz (kidL n w cur), rfl, SqL.of two.d, by rw [← vi_wz]; exact SqT.of hch', ?_, ?_, two.t, fun m H5 e5 t5 hm => ?_⟩
          · unfold wz
            rw [List.length_map]
            exact List.length_pos_iff.mpr hk0
          · intro z hz
            unfold wz at hz
            obtain ⟨j, hj, rfl⟩ := List.mem_map.mp hz
            have := kid_in hw.1 hj
            omega
          have em := least_wz hm
          subst em
          generalize ebb : leastC ks' (kidL n w cur) = b at *
          have two5 := two.ext e5 t5
          have hch5 := e5 _ _ hch' (fun ps z => nomatch z)
          have hc1 : cur < ks'.length := by omega
          have hc2 : b < ks'.length := by omega
          rw [vi_len]
          refine ⟨_, rfl, _, rfl, D, _, _, _, rfl, rfl, SqL.of two5.d, key_at hc1, _, rfl, _, rfl, D, _, _, _, rfl, rfl, SqL.of two5.d, key_at hc2, _, _, rfl, rfl, _, rfl, ?_⟩
          by_cases hlt : keyAt ks' b < keyAt ks' cur
          · rw [decide_eq_false (show ¬ keyAt ks' cur ≤ keyAt ks' b by omega)]
            refine iteF ?_
            rw [goDown_go hk0 ebb hlt] at eg
            refine ⟨_, rfl, _, rfl, D, _, _, _, rfl, rfl, SqL.of two5.d, key_at hc2, _, rfl, _, rfl, D, _, _, _, rfl, rfl, SqL.of two5.d, key_at hc1, by show 2 ≤ sizeLine; decide, fun t ht => ?_⟩
            have two2 := two5.same (Same.up (o := .tup [V.int (keyAt ks' b), V.int (keyAt ks' cur)]) ht)
            have et : upd H5 t (.tup [V.int (keyAt ks' b), V.int (keyAt ks' cur)]) t = some (.tup [V.int (keyAt ks' b), V.int (keyAt ks' cur)]) := upd_same
            generalize upd H5 t (.tup [V.int (keyAt ks' b), V.int (keyAt ks' cur)]) = G at two2 et
            refine ⟨t, _, rfl, SqT.of et, rfl, _, _, rfl, _, rfl, _, rfl, D, _, _, cur, rfl, rfl, two2.d, ixN_nat (by rw [List.length_map]; exact hc1), ?_⟩
            rw [set_int]
            have two3 : TwoE (TT A) H2 D W ((ks'.set cur (keyAt ks' b)).map V.int) (vi (way ++ [cur])) (upd G D (.lst ((ks'.set cur (keyAt ks' b)).map V.int))) := two2.setD
            generalize upd G D (.lst ((ks'.set cur (keyAt ks' b)).map V.int)) = G2 at two3
            refine ⟨_, _, rfl, _, rfl, _, rfl, D, _, _, b, rfl, rfl, two3.d, ixN_nat (by rw [List.length_map, List.length_set]; exact hc2), ?_⟩
            rw [set_int, show (ks'.set cur (keyAt ks' b)).set b (keyAt ks' cur) = swp ks' cur b from rfl]
            have two4 : TwoE (TT A) H2 D W ((swp ks' cur b).map V.int) (vi (way ++ [cur])) (upd G2 D (.lst ((swp ks' cur b).map V.int))) := two3.setD
            generalize upd G2 D (.lst ((swp ks' cur b).map V.int)) = G3 at two4
            refine ⟨rfl, _, rfl, .inl ⟨rfl, _, SqL.of two4.w⟩, _, rfl, W, _, _, rfl, rfl, two4.w, small1000 (by rw [vi_len, List.length_append, List.length_singleton]; omega), ?_⟩
            have em : vi (way ++ [cur]) ++ [V.int (b : Nat)] = vi ((way ++ [cur]) ++ [b]) := by rw [vi_app (way ++ [cur])]; rfl
            rw [em]
            have two6 : TwoE (TT A) H2 D W ((swp ks' cur b).map V.int) (vi ((way ++ [cur]) ++ [b])) (upd G3 W (.lst (vi ((way ++ [cur]) ++ [b])))) := two4.setW
            generalize upd G3 W (.lst (vi ((way ++ [cur]) ++ [b]))) = G4 at two6
            have t6 := t2.ext two6.e
            obtain ⟨dx6, l6, h16, h26⟩ := t6.ob
            refine ⟨_, rfl, _, rfl, tr, dx6, _, rfl, h16, tr, n, w, b, rfl, t6, hb2, fun H7 ch7 s7 hch7 => ?_⟩
            rw [kids_eq, kids_same n (by omega) w (by omega) b hb2 hw.1] at hch7
            have two7 := two6.same s7
            refine ⟨⟨f, swp ks' cur b, b, way ++ [cur], _, _, _, ch7, rfl, two7, hch7, hb2, by rw [swp_len]; exact hkl, by rw [List.length_append, List.length_singleton]; omega, by omega, eg⟩, ?_⟩
            rw [hmu0]
            show muW [some (.ref r), some (.int p), some (.int w), some (.ref tr), some (.ref ch7), some (.ref D), some (.ref W), _, _, _] H7 < _
            rw [muW_at rfl two7.w, vi_len, List.length_append, List.length_append, List.length_singleton, List.length_singleton]
            omega
          · rw [decide_eq_true (show keyAt ks' cur ≤ keyAt ks' b by omega)]
            refine iteT ?_
            rw [goDown_stay hk0 (by rw [ebb]; exact hlt)] at eg
            rw [eg]
            exact ⟨_, _, _, rfl, two5⟩
      · rintro σ' H1 Q1 Q2 mono ⟨v, hv, k, tv, z⟩
        exact ⟨v, hv, k, tv, mono _ _ z⟩
    · rintro σ' H' ⟨x4, x8, x9, rfl, two⟩
      refine ⟨_, rfl, _, rfl, _, rfl, fun x dx2 nx ndx nex => ?_⟩
      have hD := (Same.up (o := .own x) ndx) _ _ two.d
      have hW := (Same.up (o := .own x) ndx) _ _ two.w
      have nx2 : upd H' dx2 (.own x) x = none := by rw [upd_ne nex.symm]; exact nx
      refine ⟨x, dx2, D, W, _, (goDown n w 20 ks p [p] 0).1, wz (goDown n w 20 ks p [p] 0).2.1, rfl, upd_same, .inl ((Same.up nx2) _ _ hD), .inl (by rw [← vi_wz]; exact (Same.up nx2) _ _ hW), fun H6 k6 st => ⟨rfl, q H6 x ?_ ?_ st⟩⟩
      · exact (extN_of s12).trans (two.e.trans (extN_of (new_same nx ndx k6)))
      · exact two.t.ext (new_same nx ndx k6)
theorem kb_down (T : Tx K mg A) : ∃ mv : List Value, KBn K A.d_sift_down ["row", "place", "arms"] 2 ["arms"] (fun us ws => us ++ (mv ++ ws)) (fun vs zs => vs ++ zs) := by
  obtain ⟨mv, h⟩ := T.F_sift_down.kbinds0 (ps := ["row", "place", "arms"]) 2 ["arms"] [] (fun us mv ws => us ++ (mv ++ ws)) (by simp) (by simp) (fun r1 r2 r3 => r1.append (r2.append r3))
    (fun D doc pm an cdv ct us mv ws h1 h2 h3 => by
      match us, mv, ws, h1, h2, h3 with
      | [a, b], [], [c], _, _, _ => rfl)
  exact ⟨mv, h⟩
theorem bd_down (T : Tx K mg A) : ∃ ds, Vals [V.int 2] ds ∧ L2.Binds K A.d_sift_down ["row", "place", "arms"] ds := by
  refine T.F_sift_down.binds0 2 (by simp) rfl (fun D doc pm an cdv ct us ks h1 h2 => ?_)
  match us, ks, h1, h2 with
  | [a, b], [c], _, _ => exact ⟨_, _, _, _, _, _, rfl, rfl, rfl⟩

end
end Tw

set_option Elab.async false
set_option linter.all false
set_option maxRecDepth 100000
set_option maxHeartbeats 2000000
namespace Tw
open PySem PySem.Spec PyProof.Rows L2
section
variable {P : Program} {w : World} {K : PySem.W.Frag} {mg : Str → Option Value} {base : Heap} {A : Ad}
/-! the law's own sifts -/
def DueAt (H : Hp) (d : Addr) (r : List Int × List Nat × Nat) : Prop := ∃ t1 t2 : Addr, H d = some (.tup [.ref t1, .ref t2, .int (r.2.2 : Nat)]) ∧ H t1 = some (.tup (r.1.map V.int)) ∧ H t2 = some (.tup (vi r.2.1))
theorem DueAt.same {H H' : Hp} {d : Addr} {r : List Int × List Nat × Nat} (h : DueAt H d r) (s : Same H H') : DueAt H' d r := let ⟨t1, t2, a, b, c⟩ := h; ⟨t1, t2, s _ _ a, s _ _ b, s _ _ c⟩
def dueD (ks ws : List Int) (lk : Int) : PyData := .tuple [.tuple (ks.map PyData.int), .tuple (ws.map PyData.int), .int lk]
theorem ints_deep : ∀ ks : List Int, PyData.depthAll (ks.map PyData.int) ≤ 1
  | [] => by simp [PyData.depthAll]
  | k :: ks => by
    have := ints_deep ks
    simp only [List.map_cons, PyData.depthAll, PyData.depth]
    omega
theorem ints_lay : ∀ ks : List Int, PyData.canLayAll0 (ks.map PyData.int) = true
  | [] => rfl
  | k :: ks => by
    rw [List.map_cons, PyData.canLayAll0, ints_lay ks]
    rfl
theorem dueD_shaped (ks ws : List Int) (lk : Int) : SeqAt.shaped (dueD ks ws lk) = true := by
  have a := ints_deep ks
  have b := ints_deep ws
  unfold SeqAt.shaped dueD
  rw [Bool.and_eq_true]
  refine ⟨?_, decide_eq_true ?_⟩
  · simp only [PyData.canLay0, PyData.canLayAll0, ints_lay, Bool.and_true, Bool.true_and]
  · simp only [PyData.depth, PyData.depthAll]
    omega
theorem dueD_at (K : PySem.W.Frag) {H : Hp} {t t1 t2 : Addr} {ks ws : List Int} {lk : Int} (h : H t = some (.tup [.ref t1, .ref t2, .int lk])) (h1 : H t1 = some (.tup (ks.map V.int))) (h2 : H t2 = some (.tup (ws.map V.int))) : Dp K H (.ref t) (dueD ks ws lk) :=
  .tup (SqT.of h) (.cons (ints_tup K h1) (.cons (ints_tup K h2) (.cons (.int _) .nil)))
/-- (tuple(late), tuple(way), looks) -/
theorem due_out {H' G : Hp} {D W : Addr} {r : List Int × List Nat × Nat} {u1 u2 t : Addr} (n1 : H' u1 = none) (n2 : upd H' u1 (.tup (r.1.map V.int)) u2 = none) (nt : upd (upd H' u1 (.tup (r.1.map V.int))) u2 (.tup (vi r.2.1)) t = none) :
    Same H' (upd (upd (upd H' u1 (.tup (r.1.map V.int))) u2 (.tup (vi r.2.1))) t (.tup [.ref u1, .ref u2, .int (r.2.2 : Nat)])) ∧ DueAt (upd (upd (upd H' u1 (.tup (r.1.map V.int))) u2 (.tup (vi r.2.1))) t (.tup [.ref u1, .ref u2, .int (r.2.2 : Nat)])) t r :=
  ⟨(Same.up n1).trans ((Same.up n2).trans (Same.up nt)), u1, u2, upd_same, (Same.up nt) _ _ ((Same.up n2) _ _ upd_same), (Same.up nt) _ _ upd_same⟩
end
end Tw

set_option Elab.async false
set_option linter.all false
set_option maxRecDepth 100000
set_option maxHeartbeats 2000000
namespace Tw
open PySem PySem.Spec PyProof.Rows L2
section
variable {P : Program} {w : World} {K : PySem.W.Frag} {mg : Str → Option Value} {base : Heap} {A : Ad}
theorem first_step {kf : Nat → Int} {i j : Nat} (h : Cl.FirstLeast kf (max i 1) j) : Cl.FirstLeast kf (i + 1) (if kf i < kf j then i else j) := by
  obtain ⟨a, b, c⟩ := h
  by_cases hi : i = 0
  · subst hi
    have ej : j = 0 := by omega
    subst ej
    rw [if_neg (by omega)]
    exact ⟨by omega, fun k hk => by rw [show k = 0 by omega]; omega, fun k hk => absurd hk (by omega)⟩
  · rw [show max i 1 = i by omega] at a b
    by_cases hl : kf i < kf j
    · rw [if_pos hl]
      refine ⟨by omega, fun k hk => ?_, fun k hk => ?_⟩
      · by_cases e : k = i
        · rw [e]; omega
        · have := b k (by omega); omega
      · have := b k (by omega); omega
    · rw [if_neg hl]
      refine ⟨by omega, fun k hk => ?_, c⟩
      by_cases e : k = i
      · rw [e]; omega
      · exact b k (by omega)
theorem dp_lst (K : PySem.W.Frag) {H : Hp} {p : Addr} {l : List Nat} (h : H p = some (.lst (vi l))) : Dp K H (.ref p) (.list (dl l)) := .lst (SqL.of h) (vi_dp _ _ _)
theorem dl_emp (l : List Nat) : PyData.eqv (.list (dl l)) (.list (dl [])) = decide (l = []) := by
  rw [dl_ints, show dl [] = [] from rfl, emp_eqv]
  cases l <;> simp
theorem vi_at {l : List Nat} {i : Nat} {x : V} (h : (vi l)[i]? = some x) : i < l.length ∧ x = V.int ((l.getD i 0 : Nat) : Int) := by
  unfold vi at h
  rw [List.getElem?_map] at h
  cases e : l[i]? with
  | none => rw [e] at h; cases h
  | some a =>
    rw [e] at h
    have hi := (List.getElem?_eq_some_iff.mp e).1
    refine ⟨hi, ?_⟩
    rw [List.getD_eq_getElem?_getD, e]
    exact (Option.some.inj h).symm
def spLDown : Sp := fun vs H Q _ => ∃ (r w p : Nat) (ks : List Int), vs = [.ref r, .int w, .int p] ∧ (1 ≤ w ∧ w ≤ 4) ∧ Sq H r (ks.map V.int) ∧ ks.length ≤ 12 ∧ p < ks.length ∧
  ∀ (H' : Hp) (d : Addr), Same H H' → DueAt H' d (goDown ks.length w 20 ks p [p] 0) → Q (.ref d) H'
theorem ok_ldown (T : Tx K mg A) : FnOk P w K mg base CX0 4 A.f__law_down A.d__law_down ["row", "wide", "place"] spLDown := by
  refine T.F__law_down.ok sc__law_down (fun vs H Q E h => ?_) (fun cdv B outer s H vs Q E hr h => ?_)
  · obtain ⟨r, w, p, ks, rfl, _⟩ := h
    rfl
  · obtain ⟨r, w, p, ks, rfl, hw, hrow, hk12, hp, q⟩ := h
    have nd := sc__law_down.nd
    have hu := hr.units
    refine ⟨_, (pss_cons (ps_par3 (i := 3) (j := 4) (l := 5) rfl nd rfl rfl rfl (by decide) (by decide) (by decide) rfl rfl rfl (pa_cons (pe_callTy call_list_of (by rfl) T.g_list (by decide +kernel) (pa_cons (pv 0) pa_nil)) (pa_cons (pe_lst (pa_cons (pv 2) pa_nil)) (pa_cons pe_int pa_nil))) rfl)
      (C8.pss_cut (ps_for PassesOwn.never rfl (pi_range1 rfl T.g_range (pa_cons pe_int pa_nil)) (pg_name (i := 6) nd rfl (Or.inl rfl)) (pss_cons (ps_set (i := 7) nd rfl (Or.inl rfl) (pe_call (ok_lkid T) (hr.mono (by decide)) (by rfl) T.m__law_children T.F__law_children.kp (b_lkid T) .nil pass0 (pa_cons (pv 1) (pa_cons (pe_callB call_len_seq (by rfl) T.g_len PySem.boot_len (pa_cons (pv 0) pa_nil)) (pa_cons (pe_ix ix_list (pv 4) (pe_un un_neg pe_int) (fun _ _ => rfl)) pa_nil)))))
      (pss_cons (ps_if (pt_cmpR (op_eqD hu) (pv 7) (pe_lst pa_nil) (nomark _)) (pss_one ps_break) pss_nil)
      (pss_cons (ps_par (i := 5) (j := 8) rfl nd rfl rfl (by decide) rfl rfl (pa_cons (pe_op op_add (pv 5) (pe_callB call_len_seq (by rfl) T.g_len PySem.boot_len (pa_cons (pv 7) pa_nil))) (pa_cons (pe_ix ix_list (pv 7) pe_int (fun _ _ => rfl)) pa_nil)) rfl)
      (C8.pss_cut (ps_for PassesOwn.never rfl (pi_list (pv 7)) (pg_name (i := 9) nd rfl (Or.inl rfl)) (pss_one (ps_if (pt_cmpR op_lt (pe_ix ix_list (pv 3) (pv 9) (fun _ _ => rfl)) (pe_ix ix_list (pv 3) (pv 8) (fun _ _ => rfl)) (nomark _)) (pss_one (ps_set (i := 8) nd rfl (Or.inl rfl) (pv 9))) pss_nil)))
      (pss_cons (ps_if (pt_not (pt_cmpR op_gt (pe_ix ix_list (pv 3) (pe_ix ix_list (pv 4) (pe_un un_neg pe_int) (fun _ _ => rfl)) (fun _ _ => rfl)) (pe_ix ix_list (pv 3) (pv 8) (fun _ _ => rfl)) (nomark _))) (pss_one ps_break) pss_nil)
      (pss_cons (ps_asg (pe_tup (pa_cons (pe_ix ix_list (pv 3) (pv 8) (fun _ _ => rfl)) (pa_cons (pe_ix ix_list (pv 3) (pe_ix ix_list (pv 4) (pe_un un_neg pe_int) (fun _ _ => rfl)) (fun _ _ => rfl)) pa_nil))) (pg_tup rfl (pgs_cons (pg_sub (pv 3) (pe_ix ix_list (pv 4) (pe_un un_neg pe_int) (fun _ _ => rfl)) set_list) (pgs_cons (pg_sub (pv 3) (pv 8) set_list) pgs_nil))))
      (pss_one (ps_expr (pe_bm PySem.F.plainAttrs_list PySem.F.slot_list_append PySem.F.type_list_append mt_append (pv 4) (pa_cons (pv 8) pa_nil)))))))))))
      (pss_one (ps_ret (pe_tup (pa_cons (pe_callTy call_tuple_of (by rfl) T.g_tuple (by decide +kernel) (pa_cons (pv 3) pa_nil)) (pa_cons (pe_callTy call_tuple_of (by rfl) T.g_tuple (by decide +kernel) (pa_cons (pv 4) pa_nil)) (pa_cons (pv 5) pa_nil)))))))), ?_⟩
    refine ⟨_, rfl, r, _, rfl, hrow.len, fun D nD => ⟨_, rfl, by show 1 ≤ sizeLine; decide, fun W nW => ⟨_, _, _, rfl, ?_⟩⟩⟩
    have nDW : D ≠ W := ne_of_none (upd_same (H := H) (a := D)) nW
    have two0 : Two H D W (ks.map V.int) (vi ([] ++ [p])) (upd (upd H D (.lst (ks.map V.int))) W (.lst [V.int (p : Nat)])) :=
      ⟨(Same.up nD).trans (Same.up nW), by rw [upd_ne nDW]; exact upd_same, upd_same, nD, (Same.up nD).free nW, nDW⟩
    generalize upd (upd H D (.lst (ks.map V.int))) W (.lst [V.int (p : Nat)]) = H4 at two0
    generalize en : ks.length = n at *
    refine ⟨fun σ' H' => ∃ (x6 x7 x8 x9 : Option V), σ' = [some (.ref r), some (.int w), some (.int p), some (.ref D), some (.ref W), some (.int ((goDown n w 20 ks p [p] 0).2.2 : Nat)), x6, x7, x8, x9] ∧ Two H D W ((goDown n w 20 ks p [p] 0).1.map V.int) (vi (goDown n w 20 ks p [p] 0).2.1) H', ?_, ?_⟩
    · refine ⟨20, rfl, by decide, by decide, for_range (n := 20) (fun i σ' H' => ∃ (ks' : List Int) (cur : Nat) (way : List Nat) (lk : Nat) (x6 x7 x8 x9 : Option V), σ' = [some (.ref r), some (.int w), some (.int p), some (.ref D), some (.ref W), some (.int lk), x6, x7, x8, x9] ∧ Two H D W (ks'.map V.int) (vi (way ++ [cur])) H' ∧
        cur < n ∧ ks'.length = n ∧ way.length = i ∧ i ≤ 20 ∧ goDown n w 20 ks p [p] 0 = goDown n w (20 - i) ks' cur (way ++ [cur]) lk) ⟨ks, p, [], 0, none, none, none, none, rfl, two0, hp, en, rfl, by omega, rfl⟩ ?_ ?_⟩
      · rintro i σ' H' hi ⟨ks', cur, way, lk, x6, x7, x8, x9, rfl, two, hcur, hkl, hwl, hi2, eg⟩
        have hlast : atI (vi (way ++ [cur])) (-1) = some (V.int ((cur : Nat) : Int)) := by
          rw [vi_app]
          exact last_at
        have ef : 20 - i = (20 - (i + 1)) + 1 := by omega
        rw [ef] at eg
        refine ⟨_, rfl, _, rfl, r, _, rfl, (hrow.same two.s).len, _, rfl, _, rfl, W, _, _, _, rfl, rfl, SqL.of two.w, hlast, w, n, cur, by rw [List.length_map, en]; rfl, hw, hk12, hcur, fun H5 b s5 b0 hb => ?_⟩
        have two5 := two.same s5
        refine ⟨_, rfl, Nat.zero_le _, fun e0 ne0 => ?_⟩
        have s6 : Same H5 (upd H5 e0 (.lst [])) := Same.up ne0
        have he0 : upd H5 e0 (.lst []) e0 = some (.lst (vi [])) := upd_same
        have two6 := two5.same s6
        have hb6 := s6 _ _ hb
        generalize upd H5 e0 (.lst []) = H6 at two6 hb6 he0
        refine ⟨_, _, dp_lst _ hb6, dp_lst _ he0, dl_shapedL _, dl_shapedL _, _, rfl, ?_⟩
        rw [dl_emp]
        by_cases hk0 : kidL n w cur = []
        · rw [decide_eq_true hk0]
          refine iteT ?_
          rw [goDown_leaf hk0] at eg
          rw [eg]
          exact ⟨_, _, _, _, rfl, two6⟩
        · rw [decide_eq_false hk0]
          refine iteF ?_
          have hpos := List.length_pos_iff.mpr hk0
          have hmem := least_mem (ks := ks') hk0
          have hk4 := kid_len n (by omega) w (by omega) cur hcur hw.1
          obtain ⟨hb1, hb2⟩ := kid_in hw.1 hmem
          have at0 : atI (vi (kidL n w cur)) 0 = some (V.int (((kidL n w cur).getD 0 0 : Nat) : Int)) := by
            show atI (vi (kidL n w cur)) ((0 : Nat) : Int) = _
            refine atI_nat ?_
            unfold vi
            rw [List.getElem?_map, List.getD_eq_getElem?_getD, List.getElem?_eq_getElem hpos]
            rfl
          refine ⟨_, rfl, _, rfl, b, _, rfl, .inl (SqL.of hb6), _, _, rfl, rfl, _, rfl, b, _, _, _, rfl, rfl, SqL.of hb6, at0, _, _, rfl, ?_⟩
          rw [vi_len]
          have nbD : b ≠ D := fun z => by rw [z, two5.d] at hb; have z2 := Option.some.inj hb; injection z2 with z2; rw [z] at b0; rw [two.d] at b0; cases b0
          refine ⟨fun σ' G => ∃ (x9 : Option V), σ' = [some (.ref r), some (.int w), some (.int p), some (.ref D), some (.ref W), some (.int ((lk + (kidL n w cur).length : Nat) : Int)), some (.int ((0 : Int) + (i : Nat))), some (.ref b), some (.int ((leastC ks' (kidL n w cur) : Nat) : Int)), x9] ∧ G = H6, ?_, ?_⟩
          · refine ⟨_, rfl, b, rfl, ⟨_, SqL.of hb6⟩, for_list (K := K) (a := b) (xs := vi (kidL n w cur)) (fun i2 σ' G => ∃ (j : Nat) (x9 : Option V), σ' = [some (.ref r), some (.int w), some (.int p), some (.ref D), some (.ref W), some (.int ((lk + (kidL n w cur).length : Nat) : Int)), some (.int ((0 : Int) + (i : Nat))), some (.ref b), some (.int (((kidL n w cur).getD j 0 : Nat) : Int)), x9] ∧ G = H6 ∧
              Cl.FirstLeast (fun m => keyAt ks' ((kidL n w cur).getD m 0)) (max i2 1) j) ⟨0, x9, rfl, rfl, ⟨by omega, fun k hk => by rw [show k = 0 by omega]; omega, fun k hk => absurd hk (by omega)⟩⟩ (fun i2 σ' G _ ⟨_, _, _, e, _⟩ => by rw [e]; exact SqL.of hb6) ?_ ?_⟩
            · rintro i2 x σ' G hx ⟨j, y9, rfl, rfl, fl⟩
              obtain ⟨hi2', rfl⟩ := vi_at hx
              have hmi : (kidL n w cur).getD i2 0 ∈ kidL n w cur := by rw [List.getD_eq_getElem?_getD, List.getElem?_eq_getElem hi2']; exact List.getElem_mem hi2'
              have hj : j < (kidL n w cur).length := by have := fl.1; omega
              have hmj : (kidL n w cur).getD j 0 ∈ kidL n w cur := by rw [List.getD_eq_getElem?_getD, List.getElem?_eq_getElem hj]; exact List.getElem_mem hj
              have q1 := (kid_in hw.1 hmi).2
              have q2 := (kid_in hw.1 hmj).2
              have st := first_step fl
              refine ⟨_, rfl, _, rfl, D, _, _, _, rfl, rfl, SqL.of two6.d, key_at (by omega), _, rfl, _, rfl, D, _, _, _, rfl, rfl, SqL.of two6.d, key_at (by omega), _, _, rfl, rfl, _, rfl, ?_⟩
              by_cases hl : keyAt ks' ((kidL n w cur).getD i2 0) < keyAt ks' ((kidL n w cur).getD j 0)
              · rw [decide_eq_true hl]
                refine iteT ⟨_, rfl, i2, _, rfl, rfl, ?_⟩
                rw [if_pos hl] at st
                rw [show max (i2 + 1) 1 = i2 + 1 by omega]
                exact st
              · rw [decide_eq_false hl]
                refine iteF ⟨j, _, rfl, rfl, ?_⟩
                rw [if_neg hl] at st
                rw [show max (i2 + 1) 1 = i2 + 1 by omega]
                exact st
            · rintro σ' G ⟨j, y9, rfl, rfl, fl⟩
              rw [vi_len, show max (kidL n w cur).length 1 = (kidL n w cur).length by omega] at fl
              rw [least_of fl]
              exact ⟨_, rfl, rfl⟩
          rintro σ' G ⟨y9, rfl, rfl⟩
          generalize ebb : leastC ks' (kidL n w cur) = c at *
          have hc1 : cur < ks'.length := by omega
          have hc2 : c < ks'.length := by omega
          refine ⟨_, rfl, _, rfl, _, rfl, W, _, _, _, rfl, rfl, SqL.of two6.w, hlast, D, _, _, _, rfl, rfl, SqL.of two6.d, key_at hc1, _, rfl, _, rfl, D, _, _, _, rfl, rfl, SqL.of two6.d, key_at hc2, _, _, rfl, rfl, _, rfl, ?_⟩
          by_cases hlt : keyAt ks' c < keyAt ks' cur
          · rw [decide_eq_true (show keyAt ks' cur > keyAt ks' c from hlt)]
            refine iteF ?_
            rw [goDown_go hk0 ebb hlt] at eg
            refine ⟨_, rfl, _, rfl, D, _, _, _, rfl, rfl, SqL.of two6.d, key_at hc2, _, rfl, _, rfl, _, rfl, W, _, _, _, rfl, rfl, SqL.of two6.w, hlast, D, _, _, _, rfl, rfl, SqL.of two6.d, key_at hc1, by show 2 ≤ sizeLine; decide, fun t ht => ?_⟩
            have two2 := two6.same (Same.up (o := .tup [V.int (keyAt ks' c), V.int (keyAt ks' cur)]) ht)
            have et : upd G t (.tup [V.int (keyAt ks' c), V.int (keyAt ks' cur)]) t = some (.tup [V.int (keyAt ks' c), V.int (keyAt ks' cur)]) := upd_same
            generalize upd G t (.tup [V.int (keyAt ks' c), V.int (keyAt ks' cur)]) = G1 at two2 et
            refine ⟨t, _, rfl, SqT.of et, rfl, _, _, rfl, _, rfl, _, rfl, _, rfl, W, _, _, _, rfl, rfl, SqL.of two2.w, hlast, D, _, _, cur, rfl, rfl, two2.d, ixN_nat (by rw [List.length_map]; exact hc1), ?_⟩
            rw [set_int]
            have two3 : Two H D W ((ks'.set cur (keyAt ks' c)).map V.int) (vi (way ++ [cur])) (upd G1 D (.lst ((ks'.set cur (keyAt ks' c)).map V.int))) := two2.setD
            generalize upd G1 D (.lst ((ks'.set cur (keyAt ks' c)).map V.int)) = G2 at two3
            refine ⟨_, _, rfl, _, rfl, _, rfl, D, _, _, c, rfl, rfl, two3.d, ixN_nat (by rw [List.length_map, List.length_set]; exact hc2), ?_⟩
            rw [set_int, show (ks'.set cur (keyAt ks' c)).set c (keyAt ks' cur) = swp ks' cur c from rfl]
            have two4 : Two H D W ((swp ks' cur c).map V.int) (vi (way ++ [cur])) (upd G2 D (.lst ((swp ks' cur c).map V.int))) := two3.setD
            generalize upd G2 D (.lst ((swp ks' cur c).map V.int)) = G3 at two4
            refine ⟨rfl, _, rfl, .inl ⟨rfl, _, SqL.of two4.w⟩, _, rfl, W, _, _, rfl, rfl, two4.w, small1000 (by rw [vi_len, List.length_append, List.length_singleton]; omega), ?_⟩
            have em : vi (way ++ [cur]) ++ [V.int (c : Nat)] = vi ((way ++ [cur]) ++ [c]) := by rw [vi_app (way ++ [cur])]; rfl
            rw [em]
            exact ⟨swp ks' cur c, c, way ++ [cur], _, _, _, _, _, rfl, two4.setW, by omega, by rw [swp_len]; exact hkl, by rw [List.length_append, hwl]; rfl, by omega, eg⟩
          · rw [decide_eq_false (show ¬ keyAt ks' cur > keyAt ks' c from hlt)]
            refine iteT ?_
            rw [goDown_stay hk0 (by rw [ebb]; exact hlt)] at eg
            rw [eg]
            exact ⟨_, _, _, _, rfl, two6⟩
      · rintro σ' H' ⟨ks', cur, way, lk, x6, x7, x8, x9, rfl, two, hcur, hkl, hwl, hi2, eg⟩
        rw [show goDown n w (20 - 20) ks' cur (way ++ [cur]) lk = (ks', way ++ [cur], lk) from rfl] at eg
        rw [eg]
        exact ⟨_, _, _, _, rfl, two⟩
    · rintro σ' H' ⟨x6, x7, x8, x9, rfl, two⟩
      refine ⟨_, rfl, D, _, rfl, .inl ⟨SqL.of two.d, fun u1 n1 => ⟨_, rfl, W, _, rfl, .inl ⟨SqL.of ((Same.up n1) _ _ two.w), fun u2 n2 => ⟨_, rfl, by show 3 ≤ sizeLine; decide, fun t nt => ?_⟩⟩⟩⟩⟩
      have o := due_out (D := D) (W := W) (G := H') (r := goDown n w 20 ks p [p] 0) n1 n2 nt
      exact q _ t (two.s.trans o.1) o.2
theorem b_ldown (T : Tx K mg A) : L2.Binds K A.d__law_down ["row", "wide", "place"] [] := T.F__law_down.binds fun _ _ _ _ _ _ us hl => match us, hl with | [_, _, _], _ => rfl

end
end Tw

set_option Elab.async false
set_option linter.all false
set_option maxRecDepth 100000
set_option maxHeartbeats 2000000
namespace Tw
open PySem PySem.Spec PyProof.Rows L2
section
variable {P : Program} {w : World} {K : PySem.W.Frag} {mg : Str → Option Value} {base : Heap} {A : Ad}
open LamX (ExtN Tabs TabS)
theorem tabs_but {T : List (Addr × Str)} {H H' : Hp} {d : Addr} {xs : List V} (t : Tabs T H) (h : H d = some (.lst xs)) (b : But d H H') : Tabs T H' := fun p hp => by
  obtain ⟨ps, h1, h2, h3⟩ := t p hp
  refine ⟨ps, b _ _ (ne_of h1 h (by intro z; cases z)) h1, h2, fun pos cv hc => ?_⟩
  obtain ⟨c, e1, e2⟩ := h3 pos cv hc
  exact ⟨c, e1, b _ _ (ne_of e2 h (by intro z; unfold LamX.CodeO at z; cases z)) e2⟩
theorem DrAt.ext {K : PySem.W.Frag} {H H' : Hp} {d a : Addr} {ns : List Int} {k : Nat} (h : DrAt K H d a ns k) (e : ExtN H H') : DrAt K H' d a ns k := ⟨e _ _ h.l (fun ps z => nomatch z), h.n, e.sqL h.s, h.h⟩
theorem new_up {C x dx : Addr} {H : Hp} (nx : H x = none) (ndx : H dx = none) (nex : dx ≠ x) : Same H (upd (upd H dx (.own x)) x (.ins C dx [])) :=
  (Same.up ndx).trans (Same.up (by rw [upd_ne nex.symm]; exact nx))
theorem app_ne {α : Type} {l : List α} {x : α} : ¬ l ++ [x] = l := fun h => by
  have := congrArg List.length h
  rw [List.length_append, List.length_singleton] at this
  omega
theorem map_one (l : List Int) (x : Int) : l.map V.int ++ [V.int x] = (l ++ [x]).map V.int := by rw [List.map_append]; rfl
def lheapB (ns : List Int) (w p : Nat) : Bool := (wayL w p).any fun q => decide (ns.getD p 0 < ns.getD q 0)
def lheap (ns : List Int) (w : Nat) : Bool := (List.range ns.length).all fun p => !lheapB ns w p
theorem way_rec (w p : Nat) (hw : 1 ≤ w ∧ w ≤ 4) (hp : p ≤ 12) (h0 : 0 < p) : wayL w p = wayL w ((p - 1) / w) ++ [p] := by
  unfold wayL
  have e := up_eq w (by omega) p (by omega) hw.1
  rw [if_neg (by omega)] at e
  rw [e, List.reverse_cons]
theorem way_zero : ∀ w, w < 5 → 1 ≤ w → wayL w 0 = [0] := by decide +kernel
theorem no_fault {ns : List Int} {w : Nat} (hw : 1 ≤ w ∧ w ≤ 4) (hn : ns.length ≤ 12) (h : faultL ns w = []) : ∀ p, p < ns.length → ∀ q ∈ wayL w p, ns.getD q 0 ≤ ns.getD p 0 := by
  have h1 : ∀ p, p < ns.length → 0 < p → ns.getD ((p - 1) / w) 0 ≤ ns.getD p 0 := fun p hp h0 => by
    refine Int.not_lt.mp fun z => ?_
    have m : p ∈ faultL ns w := by
      unfold faultL
      refine List.mem_filter.mpr ⟨List.mem_range.mpr hp, ?_⟩
      unfold faultB
      rw [decide_eq_true h0, decide_eq_true z]
      rfl
    rw [h] at m
    cases m
  intro p
  induction p using Nat.strongRecOn with
  | _ p ih =>
    intro hp q hq
    by_cases h0 : 0 < p
    · have hlt : (p - 1) / w < p := Nat.lt_of_le_of_lt (Nat.div_le_self _ _) (by omega)
      rw [way_rec w p hw (by omega) h0] at hq
      rcases List.mem_append.mp hq with hq | hq
      · exact Int.le_trans (ih _ hlt (by omega) q hq) (h1 p hp h0)
      · rw [List.mem_singleton.mp hq]
        exact Int.le_refl _
    · obtain rfl : p = 0 := by omega
      rw [way_zero w (by omega) hw.1] at hq
      rw [List.mem_singleton.mp hq]
      exact Int.le_refl _
theorem par_way (w p : Nat) (hw : 1 ≤ w ∧ w ≤ 4) (hp : p ≤ 12) (h0 : 0 < p) : (p - 1) / w ∈ wayL w p := by
  rw [way_rec w p hw hp h0]
  have h := self_sub w (by omega) ((p - 1) / w) (by have := Nat.div_le_self (p - 1) w; omega) hw.1
  exact List.mem_append_left _ h
theorem lheap_fault (ns : List Int) (w : Nat) (hw : 1 ≤ w ∧ w ≤ 4) (hn : ns.length ≤ 12) : lheap ns w = decide (faultL ns w = []) := by
  by_cases h : faultL ns w = []
  · rw [decide_eq_true h]
    unfold lheap
    refine List.all_eq_true.mpr fun p hp => ?_
    have hp := List.mem_range.mp hp
    have z : lheapB ns w p = false := by
      unfold lheapB
      refine List.any_eq_false.mpr fun q hq => ?_
      have := no_fault hw hn h p hp q hq
      rw [decide_eq_false (by omega)]
      exact Bool.false_ne_true
    rw [z]
    rfl
  · rw [decide_eq_false h]
    obtain ⟨p, hp⟩ := List.exists_mem_of_ne_nil _ h
    unfold faultL at hp
    obtain ⟨h1, h2⟩ := List.mem_filter.mp hp
    unfold faultB at h2
    obtain ⟨h3, h4⟩ := Bool.and_eq_true_iff.mp h2
    have h3 := of_decide_eq_true h3
    unfold lheap
    refine List.all_eq_false.mpr ⟨p, h1, ?_⟩
    have hp12 : p ≤ 12 := by have := List.mem_range.mp h1; omega
    have z : lheapB ns w p = true := by
      unfold lheapB
      exact List.any_eq_true.mpr ⟨_, par_way w p hw hp12 h3, h4⟩
    rw [z]
    exact Bool.false_ne_true
theorem way_le : ∀ w, w < 5 → ∀ p, p < 13 → 1 ≤ w → ∀ q ∈ wayL w p, q ≤ p := by decide +kernel
end
end Tw

set_option Elab.async false
set_option linter.all false
set_option maxRecDepth 100000
set_option maxHeartbeats 2000000
namespace Tw
open PySem PySem.Spec PyProof.Rows L2
section
variable {P : Program} {w : World} {K : PySem.W.Frag} {mg : Str → Option Value} {base : Heap} {A : Ad}
/-! what going down does to a row -/
theorem mem_kid {n w p c : Nat} : c ∈ kidL n w p ↔ 1 ≤ c ∧ c < n ∧ (c - 1) / w = p := by
  unfold kidL
  rw [List.mem_map]
  constructor
  · rintro ⟨k, hk, rfl⟩
    obtain ⟨h1, h2⟩ := List.mem_filter.mp hk
    have h1 := List.mem_range.mp h1
    have h2 := of_decide_eq_true h2
    exact ⟨by omega, by omega, by rw [Nat.add_sub_cancel]; exact h2⟩
  · rintro ⟨h1, h2, h3⟩
    refine ⟨c - 1, List.mem_filter.mpr ⟨List.mem_range.mpr (by omega), decide_eq_true h3⟩, by omega⟩
theorem least_le {ks : List Int} {l : List Nat} {c : Nat} (h : c ∈ l) : keyAt ks (leastC ks l) ≤ keyAt ks c := by
  have hne : l ≠ [] := List.ne_nil_of_mem h
  obtain ⟨n, en⟩ : ∃ n, l.length = n + 1 := ⟨l.length - 1, by have := List.length_pos_iff.mpr hne; omega⟩
  have b := Cl.best_is (fun i => keyAt ks (l.getD i 0)) n
  rw [← en] at b
  obtain ⟨i, hi, e⟩ := List.mem_iff_getElem.mp h
  have this : keyAt ks (l.getD (PySem.argBest (fun i j => decide (keyAt ks (l.getD i 0) < keyAt ks (l.getD j 0))) n) 0) ≤ keyAt ks (l.getD i 0) := b.2.1 i hi
  rw [least_of b] at this
  have e2 : l.getD i 0 = c := by rw [List.getD_eq_getElem?_getD, List.getElem?_eq_getElem hi, ← e]; rfl
  rw [e2] at this
  exact this
theorem keyAt_set {ks : List Int} {a p : Nat} {v : Int} (ha : a < ks.length) : keyAt (ks.set a v) p = if p = a then v else keyAt ks p := by
  unfold keyAt
  rw [List.getD_eq_getElem?_getD, List.getD_eq_getElem?_getD, List.getElem?_set]
  by_cases h : a = p
  · rw [if_pos h, if_pos (by omega), if_pos h.symm]
    rfl
  · rw [if_neg h, if_neg (fun z => h z.symm)]
theorem keyAt_swp {ks : List Int} {a b p : Nat} (ha : a < ks.length) (hb : b < ks.length) : keyAt (swp ks a b) p = if p = b then keyAt ks a else if p = a then keyAt ks b else keyAt ks p := by
  unfold swp
  rw [keyAt_set (by rw [List.length_set]; exact hb), keyAt_set ha]
theorem swp_perm {ks : List Int} {a b : Nat} (ha : a < ks.length) (hb : b < ks.length) : (swp ks a b).Perm ks := by
  have e1 : keyAt ks a = ks[a] := by unfold keyAt; rw [List.getD_eq_getElem?_getD, List.getElem?_eq_getElem ha]; rfl
  have e2 : keyAt ks b = ks[b] := by unfold keyAt; rw [List.getD_eq_getElem?_getD, List.getElem?_eq_getElem hb]; rfl
  unfold swp
  rw [e1, e2]
  exact List.set_set_perm ha hb
/-- no key of a child is less -/
def goodAt (n w : Nat) (ks : List Int) (p : Nat) : Prop := ∀ c ∈ kidL n w p, keyAt ks p ≤ keyAt ks c
def GoodFrom (n w : Nat) (ks : List Int) (i : Nat) : Prop := ∀ p, i ≤ p → p < n → goodAt n w ks p
theorem down_good {n w i : Nat} (hw : 1 ≤ w) : ∀ (f : Nat) (ks : List Int) (cur : Nat) (way : List Nat) (lk : Nat), ks.length = n → i ≤ cur → cur < n → n - cur ≤ f →
    (∀ p, i ≤ p → p < n → p ≠ cur → goodAt n w ks p) → (∀ q, i ≤ q → q < n → cur ∈ kidL n w q → ∀ c ∈ kidL n w cur, keyAt ks q ≤ keyAt ks c) → GoodFrom n w (goDown n w f ks cur way lk).1 i
  | 0, ks, cur, way, lk, hl, hi, hc, hf, g, up => absurd hf (by omega)
  | f + 1, ks, cur, way, lk, hl, hi, hc, hf, g, up => by
    by_cases h0 : kidL n w cur = []
    · rw [goDown_leaf h0]
      intro p h1 h2
      by_cases e : p = cur
      · subst e
        intro c hc
        rw [h0] at hc
        cases hc
      · exact g p h1 h2 e
    · generalize eb : leastC ks (kidL n w cur) = b
      have hm : b ∈ kidL n w cur := eb ▸ least_mem h0
      have hle : ∀ c ∈ kidL n w cur, keyAt ks b ≤ keyAt ks c := fun c hc => eb ▸ least_le hc
      obtain ⟨b1, b2⟩ := kid_in hw hm
      by_cases hlt : keyAt ks b < keyAt ks cur
      · rw [goDown_go h0 eb hlt]
        have ka : cur < ks.length := by omega
        have kb : b < ks.length := by omega
        refine down_good hw f _ b _ _ (by rw [swp_len]; exact hl) (by omega) b2 (by omega) (fun p h1 h2 hp c hcp => ?_) (fun q h1 h2 hq c hcb => ?_)
        · rw [keyAt_swp ka kb, keyAt_swp ka kb, if_neg hp]
          obtain ⟨m1, m2, m3⟩ := mem_kid.mp hcp
          by_cases e : p = cur
          · subst e
            rw [if_pos rfl]
            by_cases ec : c = b
            · rw [if_pos ec]
              omega
            · have := (kid_in hw hcp).1
              rw [if_neg ec, if_neg (by omega)]
              exact hle c hcp
          · rw [if_neg e]
            by_cases ec : c = b
            · subst ec
              exact absurd ((mem_kid.mp hm).2.2.symm.trans m3) (fun z => e z.symm)
            · rw [if_neg ec]
              by_cases ec2 : c = cur
              · subst ec2
                rw [if_pos rfl]
                exact up p h1 h2 hcp b hm
              · rw [if_neg ec2]
                exact g p h1 h2 e c hcp
        · have eq : q = cur := (mem_kid.mp hq).2.2.symm.trans (mem_kid.mp hm).2.2
          subst eq
          have := (kid_in hw hcb).1
          rw [keyAt_swp ka kb, keyAt_swp ka kb, if_neg (by omega), if_pos rfl, if_neg (by omega), if_neg (by omega)]
          exact g b (by omega) b2 (by omega) c hcb
      · rw [goDown_stay h0 (by rw [eb]; exact hlt)]
        intro p h1 h2
        by_cases e : p = cur
        · subst e
          intro c hc
          exact Int.le_trans (Int.not_lt.mp hlt) (hle c hc)
        · exact g p h1 h2 e
theorem down_perm {n w : Nat} (hw : 1 ≤ w) : ∀ (f : Nat) (ks : List Int) (cur : Nat) (way : List Nat) (lk : Nat), ks.length = n → cur < n → ((goDown n w f ks cur way lk).1).Perm ks
  | 0, ks, cur, way, lk, hl, hc => List.Perm.refl _
  | f + 1, ks, cur, way, lk, hl, hc => by
    by_cases h0 : kidL n w cur = []
    · rw [goDown_leaf h0]
    · obtain ⟨b1, b2⟩ := kid_in hw (least_mem (ks := ks) h0)
      by_cases hlt : keyAt ks (leastC ks (kidL n w cur)) < keyAt ks cur
      · rw [goDown_go h0 rfl hlt]
        exact (down_perm hw f _ _ _ _ (by rw [swp_len]; exact hl) b2).trans (swp_perm (by omega) (by omega))
      · rw [goDown_stay h0 hlt]
theorem down_still {n w f : Nat} {ks : List Int} {p : Nat} (h0 : kidL n w p ≠ []) (g : goodAt n w ks p) : goDown n w (f + 1) ks p [p] 0 = (ks, [p], (kidL n w p).length) := by
  have := g _ (least_mem (ks := ks) h0)
  rw [goDown_stay h0 (by omega), Nat.zero_add]
theorem down_way (n w : Nat) : ∀ f ks p way lk, way ≠ [] → (goDown n w f ks p way lk).2.1 ≠ []
  | 0, ks, p, way, lk, h => h
  | f + 1, ks, p, way, lk, h => by
    unfold goDown
    split
    · exact h
    · split
      · exact down_way n w f _ _ _ _ (by simp)
      · exact h
theorem down_ways (n w : Nat) : ∀ f ks p way lk, (goDown n w f ks p way lk).2.1.length ≤ way.length + f
  | 0, ks, p, way, lk => Nat.le_refl _
  | f + 1, ks, p, way, lk => by
    unfold goDown
    split
    · exact Nat.le_add_right _ _
    · split
      · have := down_ways n w f (swp ks p (leastC ks (kidL n w p))) (leastC ks (kidL n w p)) (way ++ [leastC ks (kidL n w p)]) (lk + (kidL n w p).length)
        rw [List.length_append, List.length_singleton] at this
        omega
      · exact Nat.le_add_right _ _
/-! building -/
abbrev BSt := List Int × List (Int × Int) × Nat × Nat
def lastW (l : List Nat) : Nat := l.getLastD 0
def bstep (n w : Nat) (st : BSt) (p : Nat) : BSt := if kidL n w p = [] then st else
  ((goDown n w 20 st.1 p [p] 0).1, st.2.1 ++ [((p : Int), ((lastW (goDown n w 20 st.1 p [p] 0).2.1 : Nat) : Int))], st.2.2.1 + ((goDown n w 20 st.1 p [p] 0).2.1.length - 1), st.2.2.2 + (goDown n w 20 st.1 p [p] 0).2.2)
def bld (n w : Nat) (ks : List Int) : Nat → BSt
  | 0 => (ks, [], 0, 0)
  | i + 1 => bstep n w (bld n w ks i) (n - 1 - i)
theorem bld_len (n w : Nat) (ks : List Int) : ∀ i, (bld n w ks i).1.length = ks.length
  | 0 => rfl
  | i + 1 => by
    unfold bld bstep
    split
    · exact bld_len n w ks i
    · show (goDown n w 20 (bld n w ks i).1 _ _ 0).1.length = _
      rw [down_res, bld_len n w ks i]
theorem bld_stops (n w : Nat) (ks : List Int) : ∀ i, (bld n w ks i).2.1.length ≤ i
  | 0 => Nat.le_refl _
  | i + 1 => by
    have := bld_stops n w ks i
    unfold bld bstep
    split
    · omega
    · show ((bld n w ks i).2.1 ++ [_]).length ≤ _
      rw [List.length_append, List.length_singleton]
      omega
theorem bld_perm {n w : Nat} (hw : 1 ≤ w) {ks : List Int} (hl : ks.length = n) : ∀ i, i ≤ n → ((bld n w ks i).1).Perm ks
  | 0, _ => List.Perm.refl _
  | i + 1, hi => by
    have ih := bld_perm hw hl i (by omega)
    unfold bld bstep
    split
    · exact ih
    · exact (down_perm hw 20 _ _ _ _ (by rw [bld_len]; exact hl) (by omega)).trans ih
theorem bld_good {n w : Nat} (hw : 1 ≤ w) (hn : n ≤ 12) {ks : List Int} (hl : ks.length = n) : ∀ i, i ≤ n → GoodFrom n w (bld n w ks i).1 (n - i)
  | 0, _ => fun p h1 h2 => absurd h1 (by omega)
  | i + 1, hi => by
    have ih := bld_good hw hn hl i (by omega)
    unfold bld bstep
    split
    · rename_i h0
      intro p h1 h2
      by_cases e : p = n - 1 - i
      · subst e
        intro c hc
        rw [h0] at hc
        cases hc
      · exact ih p (by omega) h2
    · refine down_good hw 20 _ _ _ _ (by rw [bld_len]; exact hl) (by omega) (by omega) (by omega) (fun p h1 h2 hp => ih p (by omega) h2) (fun q h1 h2 hq => ?_)
      have := (kid_in hw hq).1
      exact absurd h1 (by omega)
/-- a row without a bad place is built to itself -/
theorem bld_same {n w : Nat} {ks : List Int} (hl : ks.length = n) (g : GoodFrom n w ks 0) : ∀ i, i ≤ n → (bld n w ks i).1 = ks ∧ (bld n w ks i).2.2.1 = 0 ∧ ∀ z ∈ (bld n w ks i).2.1, z.1 = z.2
  | 0, _ => ⟨rfl, rfl, fun z hz => (nomatch hz)⟩
  | i + 1, hi => by
    obtain ⟨h1, h2, h3⟩ := bld_same hl g i (by omega)
    unfold bld bstep
    split
    · exact ⟨h1, h2, h3⟩
    · rename_i h0
      rw [h1, down_still h0 (g _ (Nat.zero_le _) (by omega))]
      refine ⟨rfl, by rw [h2]; rfl, fun z hz => ?_⟩
      rcases List.mem_append.mp hz with z1 | z1
      · exact h3 z z1
      · rw [List.mem_singleton.mp z1]
        rfl
/-- such a row is a heap by the law's own look -/
theorem good_heap {n w : Nat} (hw : 1 ≤ w ∧ w ≤ 4) (hn : n ≤ 12) {ks : List Int} (hl : ks.length = n) (g : GoodFrom n w ks 0) : lheap ks w = true := by
  rw [lheap_fault ks w hw (by omega)]
  refine decide_eq_true (List.eq_nil_iff_forall_not_mem.mpr fun p hp => ?_)
  unfold faultL at hp
  obtain ⟨h1, h2⟩ := List.mem_filter.mp hp
  unfold faultB at h2
  obtain ⟨h3, h4⟩ := Bool.and_eq_true_iff.mp h2
  have h1 := List.mem_range.mp h1
  have h3 := of_decide_eq_true h3
  have h4 := of_decide_eq_true h4
  have hlt : (p - 1) / w < p := Nat.lt_of_le_of_lt (Nat.div_le_self _ _) (by omega)
  have := g ((p - 1) / w) (Nat.zero_le _) (by omega) p (mem_kid.mpr ⟨h3, by omega, rfl⟩)
  unfold keyAt at this
  omega

end
end Tw

set_option Elab.async false
set_option linter.all false
set_option maxRecDepth 100000
set_option maxHeartbeats 2000000
namespace Tw
open PySem PySem.Spec PyProof.Rows L2
section
variable {P : Program} {w : World} {K : PySem.W.Frag} {mg : Str → Option Value} {base : Heap} {A : Ad}
open LamX (ExtN Tabs TabS)
/-- for x in e, e a list or a tuple -/
def iSeq (K : PySem.W.Frag) (tl : TE) : TI := fun σ H R => tl σ H fun x H1 => ∃ a xs, x = .ref a ∧ ((SqL K H1 a xs ∧ R (Itl K a) H1) ∨ (SqT K H1 a xs ∧ R (Itt K a) H1))
theorem pi_seq {X : Cx} {tg l : Expr} {tl : TE} (hl : PE X l tl) : PI X tg l (iSeq X.K tl) := by
  refine ⟨fun pins s σ H R I h => thn (hl.run pins s σ H _ I h) fun v s1 ⟨x, H1, I1, r1, a, xs, e, q⟩ => ?_⟩
  subst e
  obtain rfl : v = Value.ref a := r1
  have fp : ∀ b ∈ [s1.heap.objs.size], FpOk X pins H1 b := fun b hb => by
    rw [List.mem_singleton.mp hb]
    exact I1.fpOk (Nat.le_refl _) I1.fresh
  rcases q with ⟨hq, q⟩ | ⟨hq, q⟩
  · obtain ⟨its, rv, pl, hz⟩ := I1.list hq
    exact wpAny_pyIter_list pl.isList ⟨s1.heap.objs.size, _, _, _, H1, rfl, I1.kept (t' := s1.toks) fun _ _ e => Heap.get?_push_of_some _ e, turn_list a _, ⟨_, Heap.get?_push_size _ rfl, rfl, rfl⟩, fp, q⟩
  · obtain ⟨its, rv, pl, hz⟩ := I1.tuple hq
    exact wpAny_pyIter_tuple (show s1.heap.IsTuple a its.toArray from pl) ⟨s1.heap.objs.size, _, _, _, H1, rfl, I1.kept (t' := s1.toks) fun _ _ e => Heap.get?_push_of_some _ e, turn_tuple a _, ⟨_, Heap.get?_push_size _ rfl, rfl, rfl⟩, fp, q⟩
def rTupOf (K : PySem.W.Frag) : List V → Hp → VK → Prop := fun xs H Q => ∃ p ys, xs = [V.ref p] ∧ ((SqL K H p ys ∧ ∀ l, H l = none → Q (.ref l) (upd H l (.tup ys))) ∨ SqT K H p ys ∧ Q (.ref p) H)
theorem call_tupK {X : Cx} : CallR X (.type "tuple") (rTupOf X.K) := call_tuple_of
theorem q1 : ¬ (("row" : Str) = "stops") := by decide +kernel
theorem q2 : ¬ (("row" : Str) = "changes") := by decide +kernel
theorem q3 : ¬ (("stops" : Str) = "changes") := by decide +kernel
theorem q4 : ¬ (("stops" : Str) = "looks") := by decide +kernel
theorem q5 : ¬ (("changes" : Str) = "looks") := by decide +kernel
def uf (t1 t2 ch lk : Nat) : List (Str × V) := putF "looks" (.int lk) (putF "changes" (.int ch) (putF "stops" (.ref t2) (putF "row" (.ref t1) [])))
theorem uf_row (t1 t2 ch lk : Nat) : (uf t1 t2 ch lk).lookup ("row" : Str) = some (.ref t1) := by
  unfold uf
  rw [lookup_putF, if_neg m2, lookup_putF, if_neg q2, lookup_putF, if_neg q1, lookup_putF, if_pos rfl]
theorem uf_stops (t1 t2 ch lk : Nat) : (uf t1 t2 ch lk).lookup ("stops" : Str) = some (.ref t2) := by
  unfold uf
  rw [lookup_putF, if_neg q4, lookup_putF, if_neg q3, lookup_putF, if_pos rfl]
theorem uf_changes (t1 t2 ch lk : Nat) : (uf t1 t2 ch lk).lookup ("changes" : Str) = some (.int ch) := by
  unfold uf
  rw [lookup_putF, if_neg q5, lookup_putF, if_pos rfl]
theorem uf_looks (t1 t2 ch lk : Nat) : (uf t1 t2 ch lk).lookup ("looks" : Str) = some (.int lk) := by
  unfold uf
  rw [lookup_putF, if_pos rfl]
/-- a pair of ints at an address -/
def PrAt (H : Hp) (v : V) (p : Int × Int) : Prop := ∃ t, v = .ref t ∧ H t = some (.tup [.int p.1, .int p.2])
abbrev PrsAt (H : Hp) : List V → List (Int × Int) → Prop := Paired (PrAt H)
theorem PrsAt.ext {H H' : Hp} {xs : List V} {ps : List (Int × Int)} (h : PrsAt H xs ps) (e : ExtN H H') : PrsAt H' xs ps := L2.Paired.mapP h fun _ _ ⟨t, q, z⟩ => ⟨t, q, e _ _ z fun ps z => nomatch z⟩
theorem PrsAt.same {H H' : Hp} {xs : List V} {ps : List (Int × Int)} (h : PrsAt H xs ps) (s : Same H H') : PrsAt H' xs ps := h.ext (extN_of s)
theorem PrsAt.push {H : Hp} {x : V} {p : Int × Int} (hp : PrAt H x p) : ∀ {xs : List V} {ps : List (Int × Int)}, PrsAt H xs ps → PrsAt H (xs ++ [x]) (ps ++ [p])
  | _, _, .nil => .cons hp .nil
  | _, _, .cons a b => .cons a (PrsAt.push hp b)
theorem PrsAt.put {H : Hp} {D : Addr} {o : HO} {xs zs : List V} {ps : List (Int × Int)} (hD : H D = some (.lst zs)) : PrsAt H xs ps → PrsAt (upd H D o) xs ps := fun h =>
  L2.Paired.mapP h fun _ _ ⟨t, e, z⟩ => ⟨t, e, by rw [upd_ne (ne_of z hD (by intro q; cases q))]; exact z⟩
theorem prs_get {H : Hp} : ∀ {xs : List V} {ps : List (Int × Int)} {i : Nat} {x : V}, PrsAt H xs ps → xs[i]? = some x → ∃ p, ps[i]? = some p ∧ PrAt H x p
  | _, _, 0, x, .cons a b, h => ⟨_, rfl, by cases h; exact a⟩
  | _, _, i + 1, x, .cons a b, h => prs_get (i := i) b h
def SqV (H : Hp) (a : Addr) (xs : List V) : Prop := H a = some (.lst xs) ∨ H a = some (.tup xs)
/-- a Built stands at p -/
def BuiltAt (C : Addr) (H : Hp) (p : Addr) (ks : List Int) (ps : List (Int × Int)) (ch lk : Nat) : Prop := ∃ (dx t1 t2 : Addr) (xs : List V), H p = some (.ins C dx (uf t1 t2 ch lk)) ∧ H t1 = some (.tup (ks.map V.int)) ∧ H t2 = some (.tup xs) ∧ PrsAt H xs ps
theorem BuiltAt.ext {C : Addr} {H H' : Hp} {p : Addr} {ks : List Int} {ps : List (Int × Int)} {ch lk : Nat} (h : BuiltAt C H p ks ps ch lk) (e : ExtN H H') : BuiltAt C H' p ks ps ch lk := by
  obtain ⟨dx, t1, t2, xs, a, b, c, d⟩ := h
  exact ⟨dx, t1, t2, xs, e _ _ a (fun ps z => nomatch z), e _ _ b (fun ps z => nomatch z), e _ _ c (fun ps z => nomatch z), d.ext e⟩
theorem BuiltAt.same {C : Addr} {H H' : Hp} {p : Addr} {ks : List Int} {ps : List (Int × Int)} {ch lk : Nat} (h : BuiltAt C H p ks ps ch lk) (s : Same H H') : BuiltAt C H' p ks ps ch lk := h.ext (extN_of s)
def spBi (C : Addr) : Sp := fun vs H Q _ => ∃ (p dx a b ch lk : Nat) (ks : List Int) (xs : List V) (ps : List (Int × Int)), vs = [.ref p, .ref a, .ref b, .int ch, .int lk] ∧ H p = some (.ins C dx []) ∧ Sq H a (ks.map V.int) ∧ SqV H b xs ∧ PrsAt H xs ps ∧ ps.length ≤ 900 ∧
  ∀ (H' : Hp), (∀ b o, H b = some o → b ≠ p → H' b = some o) → BuiltAt C H' p ks ps ch lk → Q .non H'
theorem ok_bi (T : Tx K mg A) : FnOk P w K mg base CX0 2 A.f_u___init__ A.d_u___init__ ["self", "row", "stops", "changes", "looks"] (spBi A.CB) := by
  refine T.F_u___init__.ok sc_u___init__ (fun vs H Q E h => ?_) (fun cdv B outer s H vs Q E hr h => ?_)
  · obtain ⟨p, dx, a, b, ch, lk, ks, xs, ps, rfl, _⟩ := h
    rfl
  · obtain ⟨p, dx, a, b, ch, lk, ks, xs, ps, rfl, hp, ha, hb, hps, hpl, q⟩ := h
    have nd := sc_u___init__.nd
    refine ⟨_, (C8.pss_cut (ps_fld (pv 0) (pe_callTy call_tuple_of (by rfl) T.g_tuple (by decide +kernel) (pa_cons (pv 1) pa_nil)) rfl)
      (C8.pss_cut (ps_fld (pv 0) (pe_callTy call_tuple_of (by rfl) T.g_tuple (by decide +kernel) (pa_cons (pe_lc (own := [("stop", 5)]) (g := gName 5) (tt := tYes) rfl nd (pi_seq (pv 2)) (blkOk_by (own := [("stop", 5)]) (N := ["self", "row", "stops", "changes", "looks", "stop"]) (sc := defScope s_u___init__) (by decide +kernel)) (fun _ _ _ _ _ => pg_name (i := 5) nd rfl (Or.inl rfl)) (fun _ _ _ _ _ => pts_nil) (fun _ _ _ _ _ => (pe_callTy (r := rTupOf K) call_tupK (by rfl) T.g_tuple (by decide +kernel) (pa_cons (pv 5) pa_nil)))) pa_nil)) rfl)
      (pss_cons (ps_fld (pv 0) (pv 3) rfl)
      (pss_one (ps_fld (pv 0) (pv 4) rfl))))), ?_⟩
    have npa : p ≠ a := fun z => by rcases ha with h | h <;> rw [← z, hp] at h <;> cases h
    have npb : p ≠ b := fun z => by rcases hb with h | h <;> rw [← z, hp] at h <;> cases h
    generalize eS : (L2.start ["self", "row", "stops", "changes", "looks", "stop"] [V.ref p, .ref a, .ref b, .int ch, .int lk] : L2.St) = S0
    refine ⟨fun σ H' => ∃ t1 : Addr, σ = S0 ∧ (∀ c o, H c = some o → c ≠ p → H' c = some o) ∧ H' p = some (.ins A.CB dx (putF "row" (.ref t1) [])) ∧ H' t1 = some (.tup (ks.map V.int)) ∧ t1 ≠ p, ?_, ?_⟩
    · subst eS
      have go : ∀ (H1 : Hp) (t1 : Addr), Same H H1 → H1 t1 = some (.tup (ks.map V.int)) → ∃ t2 : Addr, (L2.start ["self", "row", "stops", "changes", "looks", "stop"] [V.ref p, .ref a, .ref b, .int ch, .int lk] : L2.St) = L2.start ["self", "row", "stops", "changes", "looks", "stop"] [V.ref p, .ref a, .ref b, .int ch, .int lk] ∧
          (∀ c o, H c = some o → c ≠ p → upd H1 p (.ins A.CB dx (putF "row" (.ref t1) [])) c = some o) ∧ upd H1 p (.ins A.CB dx (putF "row" (.ref t1) [])) p = some (.ins A.CB dx (putF "row" (.ref t2) [])) ∧ upd H1 p (.ins A.CB dx (putF "row" (.ref t1) [])) t2 = some (.tup (ks.map V.int)) ∧ t2 ≠ p := fun H1 t1 s1 e1 => by
        have n1 : t1 ≠ p := fun z => by rw [z, s1 _ _ hp] at e1; cases e1
        exact ⟨t1, rfl, fun c o e n => by rw [upd_ne n]; exact s1 _ _ e, upd_same, by rw [upd_ne n1]; exact e1, n1⟩
      rcases ha with h | h
      · exact ⟨_, rfl, a, _, rfl, .inl ⟨SqL.of h, fun t1 ht1 => ⟨_, rfl, p, A.CB, dx, _, rfl, (Same.up ht1) _ _ hp, T.cTB, T.bRow, (by show 0 < 1000; decide), go _ t1 (Same.up ht1) upd_same⟩⟩⟩
      · exact ⟨_, rfl, a, _, rfl, .inr ⟨SqT.of h, _, rfl, p, A.CB, dx, _, rfl, hp, T.cTB, T.bRow, (by show 0 < 1000; decide), go H a (Same.refl _) h⟩⟩
    rintro σ H1 ⟨t1, eq, k1, hp1, e1, n1⟩
    subst σ
    have hb1 : SqV H1 b xs := hb.elim (fun h => .inl (k1 _ _ h npb.symm)) fun h => .inr (k1 _ _ h npb.symm)
    have hps1 : PrsAt H1 xs ps := L2.Paired.mapP hps fun _ _ ⟨t, e, z⟩ => ⟨t, e, k1 _ _ z (fun q => by rw [q, hp] at z; cases z)⟩
    refine ⟨fun σ H' => ∃ t2 : Addr, σ = S0 ∧ (∀ c o, H1 c = some o → c ≠ p → H' c = some o) ∧ H' p = some (.ins A.CB dx (putF "stops" (.ref t2) (putF "row" (.ref t1) []))) ∧ H' t2 = some (.tup xs) ∧ t2 ≠ p, ?_, ?_⟩
    · subst eS
      have lenX : xs.length = ps.length := Paired.length hps
      have fin : ∀ H2 : Hp, Same H1 H2 → ∀ (D : Addr), H2 D = some (.lst xs) → ∀ t2, H2 t2 = Option.none → ∃ t3 : Addr, (L2.start ["self", "row", "stops", "changes", "looks", "stop"] [V.ref p, .ref a, .ref b, .int ch, .int lk] : L2.St) = L2.start ["self", "row", "stops", "changes", "looks", "stop"] [V.ref p, .ref a, .ref b, .int ch, .int lk] ∧
          (∀ c o, H1 c = some o → c ≠ p → upd (upd H2 t2 (.tup xs)) p (.ins A.CB dx (putF "stops" (.ref t2) (putF "row" (.ref t1) []))) c = some o) ∧ upd (upd H2 t2 (.tup xs)) p (.ins A.CB dx (putF "stops" (.ref t2) (putF "row" (.ref t1) []))) p = some (.ins A.CB dx (putF "stops" (.ref t3) (putF "row" (.ref t1) []))) ∧ upd (upd H2 t2 (.tup xs)) p (.ins A.CB dx (putF "stops" (.ref t2) (putF "row" (.ref t1) []))) t3 = some (.tup xs) ∧ t3 ≠ p := fun H2 s2 D hD t2 h2 => by
        have n2 : t2 ≠ p := fun z => by rw [z, s2 _ _ hp1] at h2; cases h2
        exact ⟨t2, rfl, fun c o e n => by rw [upd_ne n]; exact (Same.up h2) _ _ (s2 _ _ e), upd_same, by rw [upd_ne n2]; exact upd_same, n2⟩
      rcases hb1 with h | h
      · refine ⟨_, rfl, b, _, rfl, .inl ⟨SqL.of h, fun D hD => ?_⟩⟩
        refine lc_list (K := K) (a := b) (xs := xs) (fun i H' => Acc H1 D (xs.take i) H') (Acc.start hD) (fun i H' _ ac => SqL.of (ac.s _ _ h)) ?_ ?_
        · rintro i x H' hx ac
          obtain ⟨pp, _, t, rfl, ht⟩ := prs_get hps1 hx
          have hi := (List.getElem?_eq_some_iff.mp hx).1
          refine ⟨rfl, iteT (B := Acc H1 D (xs.take (i + 1)) H') ⟨_, rfl, t, _, rfl, .inr ⟨SqT.of (ac.s _ _ ht), _, ac.a, small1000 (by rw [List.length_take]; omega), ?_⟩⟩⟩
          have e : xs.take i ++ [V.ref t] = xs.take (i + 1) := by rw [List.take_succ, hx]; rfl
          rw [e]
          exact ac.push
        · intro H' ac
          have ad := ac.a
          rw [List.take_length] at ad
          exact ⟨_, _, rfl, .inl ⟨SqL.of ad, fun t2 h2 => ⟨_, rfl, p, A.CB, dx, _, rfl, (Same.up h2) _ _ (ac.s _ _ hp1), T.cTB, T.bStops, (by show 1 < 1000; decide), fin H' ac.s D ad t2 h2⟩⟩⟩
      · refine ⟨_, rfl, b, _, rfl, .inr ⟨SqT.of h, fun D hD => ?_⟩⟩
        refine lc_it (walk_tup (xs := xs)) (fun i H' => Acc H1 D (xs.take i) H') (Acc.start hD) (fun i H' _ ac => SqT.of (ac.s _ _ h)) ?_ ?_
        · rintro i x H' H2 hi ac ⟨rfl, hx⟩
          obtain ⟨pp, _, t, rfl, ht⟩ := prs_get hps1 hx
          refine ⟨rfl, iteT (B := Acc H1 D (xs.take (i + 1)) H2) ⟨_, rfl, t, _, rfl, .inr ⟨SqT.of (ac.s _ _ ht), _, ac.a, small1000 (by rw [List.length_take]; omega), ?_⟩⟩⟩
          have e : xs.take i ++ [V.ref t] = xs.take (i + 1) := by rw [List.take_succ, hx]; rfl
          rw [e]
          exact ac.push
        · intro H' ac
          have ad := ac.a
          rw [List.take_length] at ad
          exact ⟨_, _, rfl, .inl ⟨SqL.of ad, fun t2 h2 => ⟨_, rfl, p, A.CB, dx, _, rfl, (Same.up h2) _ _ (ac.s _ _ hp1), T.cTB, T.bStops, (by show 1 < 1000; decide), fin H' ac.s D ad t2 h2⟩⟩⟩
    rintro σ H2 ⟨t2, eq, k2, hp2, e2, n2⟩
    subst σ
    subst eS
    refine ⟨_, rfl, _, rfl, p, A.CB, dx, _, rfl, hp2, T.cTB, T.bChanges, (by simp only [putF, q1, if_false]; show 2 < 1000; decide), ?_⟩
    refine ⟨_, rfl, _, rfl, p, A.CB, dx, _, rfl, upd_same, T.cTB, T.bLooks, (by simp only [putF, q1, q2, q3, if_false]; show 3 < 1000; decide), ?_⟩
    refine q _ (fun c o e hc => ?_) ⟨dx, t1, t2, xs, upd_same, ?_, ?_, ?_⟩
    · rw [upd_ne hc, upd_ne hc]
      exact k2 _ _ (k1 _ _ e hc) hc
    · rw [upd_ne n1, upd_ne n1]
      exact k2 _ _ e1 n1
    · rw [upd_ne n2, upd_ne n2]
      exact e2
    · exact L2.Paired.mapP hps1 fun _ _ ⟨t, e, z⟩ => ⟨t, e, by
        have nt : t ≠ p := fun y => by rw [y, hp1] at z; cases z
        rw [upd_ne nt, upd_ne nt]
        exact k2 _ _ z nt⟩
theorem b_bi (T : Tx K mg A) : L2.Binds K A.d_u___init__ ["self", "row", "stops", "changes", "looks"] [] := T.F_u___init__.binds fun _ _ _ _ _ _ us hl => match us, hl with | [_, _, _, _, _], _ => rfl
/-! codes of building, by keys -/
/-- the row behind the swaps of a way, undone -/
def undoS : List Int → List Nat → List Int
  | R, [] => R
  | R, [_] => R
  | R, a :: b :: l => swp (undoS R (b :: l)) a b
theorem undo_len (R : List Int) : ∀ l, (undoS R l).length = R.length
  | [] => rfl
  | [_] => rfl
  | a :: b :: l => by
    show (swp (undoS R (b :: l)) a b).length = _
    rw [swp_len, undo_len R (b :: l)]
/-- a way down from a place -/
def Down (n w : Nat) : Nat → List Nat → Prop
  | _, [] => True
  | p, b :: l => b ∈ kidL n w p ∧ Down n w b l
def endOf (p : Nat) (l : List Nat) : Nat := l.getLastD p
theorem end_cons (p b : Nat) (l : List Nat) : endOf p (b :: l) = endOf b l := by
  unfold endOf
  cases l with
  | nil => rfl
  | cons c l => simp [List.getLastD]
theorem down_lt {n w : Nat} (hw : 1 ≤ w) : ∀ (l : List Nat) (p : Nat), p < n → Down n w p l → (∀ q ∈ l, p < q ∧ q < n) ∧ p ≤ endOf p l ∧ endOf p l < n
  | [], p, hp, _ => ⟨fun q hq => (nomatch hq), Nat.le_refl _, hp⟩
  | b :: l, p, hp, ⟨hb, hd⟩ => by
    obtain ⟨b1, b2⟩ := kid_in hw hb
    obtain ⟨h1, h2, h3⟩ := down_lt hw l b b2 hd
    refine ⟨fun q hq => ?_, by rw [end_cons]; omega, by rw [end_cons]; exact h3⟩
    rcases List.mem_cons.mp hq with rfl | hq
    · exact ⟨b1, b2⟩
    · have := h1 q hq
      exact ⟨by omega, this.2⟩
theorem undo_perm {n w : Nat} (hw : 1 ≤ w) {R : List Int} (hl : R.length = n) : ∀ (l : List Nat) (p : Nat), p < n → Down n w p l → (undoS R (p :: l)).Perm R
  | [], p, _, _ => List.Perm.refl _
  | b :: l, p, hp, ⟨hb, hd⟩ => by
    obtain ⟨b1, b2⟩ := kid_in hw hb
    show (swp (undoS R (b :: l)) p b).Perm R
    exact (swp_perm (by rw [undo_len]; omega) (by rw [undo_len]; omega)).trans (undo_perm hw hl l b b2 hd)
/-- what stands where -/
theorem undo_at {n w : Nat} (hw : 1 ≤ w) {R : List Int} (hl : R.length = n) : ∀ (l : List Nat) (p : Nat), p < n → Down n w p l → ∀ q,
    keyAt (undoS R (p :: l)) q = if q = p then keyAt R (endOf p l) else if q ∈ l then keyAt R ((q - 1) / w) else keyAt R q
  | [], p, hp, _, q => by
    show keyAt R q = _
    by_cases h : q = p
    · rw [if_pos h, h]
      rfl
    · rw [if_neg h, if_neg (by simp)]
  | b :: l, p, hp, ⟨hb, hd⟩, q => by
    obtain ⟨b1, b2⟩ := kid_in hw hb
    obtain ⟨h1, _, _⟩ := down_lt hw l b b2 hd
    have ih := undo_at hw hl l b b2 hd
    show keyAt (swp (undoS R (b :: l)) p b) q = _
    rw [keyAt_swp (by rw [undo_len]; omega) (by rw [undo_len]; omega), ih, ih, ih]
    by_cases e1 : q = b
    · subst e1
      have hpl : p ∉ l := fun z => by have := h1 p z; omega
      rw [if_pos rfl, if_neg (by omega), if_neg hpl, if_neg (by omega), if_pos List.mem_cons_self, (mem_kid.mp hb).2.2]
    · rw [if_neg e1]
      by_cases e2 : q = p
      · rw [if_pos e2, if_pos rfl, if_pos e2, end_cons]
      · rw [if_neg e2, if_neg e1, if_neg e2]
        by_cases e3 : q ∈ l
        · rw [if_pos e3, if_pos (List.mem_cons_of_mem _ e3)]
        · rw [if_neg e3, if_neg (fun z => e3 ((List.mem_cons.mp z).resolve_left e1))]
theorem swp_swp {ks : List Int} {a b : Nat} (ha : a < ks.length) (hb : b < ks.length) : swp (swp ks a b) a b = ks := by
  have la : a < (swp ks a b).length := by rw [swp_len]; exact ha
  have lb : b < (swp ks a b).length := by rw [swp_len]; exact hb
  refine List.ext_getElem (by rw [swp_len, swp_len]) fun i h1 h2 => ?_
  have k : ∀ (l : List Int) (h : i < l.length), l[i] = keyAt l i := fun l h => by
    unfold keyAt
    rw [List.getD_eq_getElem?_getD, List.getElem?_eq_getElem h]
    rfl
  rw [k _ h1, k _ h2, keyAt_swp la lb, keyAt_swp ha hb, keyAt_swp ha hb, keyAt_swp ha hb]
  by_cases e1 : i = b
  · subst e1
    by_cases e2 : a = i
    · subst e2
      rw [if_pos rfl, if_pos rfl]
    · rw [if_pos rfl, if_neg e2, if_pos rfl]
  · rw [if_neg e1]
    by_cases e2 : i = a
    · rw [if_pos e2, if_pos rfl, e2]
    · rw [if_neg e2, if_neg e2, if_neg e1]
/-- going down, undone -/
theorem down_undo {n w : Nat} (hw : 1 ≤ w) : ∀ (f : Nat) (ks : List Int) (p : Nat) (way : List Nat) (lk : Nat), ks.length = n → p < n →
    ∃ l, Down n w p l ∧ (goDown n w f ks p way lk).2.1 = way ++ l ∧ undoS (goDown n w f ks p way lk).1 (p :: l) = ks
  | 0, ks, p, way, lk, _, _ => ⟨[], trivial, by rw [List.append_nil]; rfl, rfl⟩
  | f + 1, ks, p, way, lk, hl, hp => by
    by_cases h0 : kidL n w p = []
    · rw [goDown_leaf h0]
      exact ⟨[], trivial, by rw [List.append_nil], rfl⟩
    · by_cases hlt : keyAt ks (leastC ks (kidL n w p)) < keyAt ks p
      · rw [goDown_go h0 rfl hlt]
        have hm := least_mem (ks := ks) h0
        generalize leastC ks (kidL n w p) = b at hm
        obtain ⟨b1, b2⟩ := kid_in hw hm
        obtain ⟨l, d1, d2, d3⟩ := down_undo hw f (swp ks p b) b (way ++ [b]) (lk + (kidL n w p).length) (by rw [swp_len]; exact hl) b2
        refine ⟨b :: l, ⟨hm, d1⟩, by rw [d2, List.append_assoc]; rfl, ?_⟩
        show swp (undoS _ (b :: l)) p b = ks
        rw [d3, swp_swp (by omega) (by omega)]
      · rw [goDown_stay h0 hlt]
        exact ⟨[], trivial, by rw [List.append_nil], rfl⟩
theorem least_one {ks : List Int} {l : List Nat} {b : Nat} (hb : b ∈ l) (h : ∀ c ∈ l, c ≠ b → keyAt ks b < keyAt ks c) : leastC ks l = b := by
  have hm := least_mem (ks := ks) (List.ne_nil_of_mem hb)
  have hle := least_le (ks := ks) hb
  by_cases e : leastC ks l = b
  · exact e
  · have := h _ hm e
    omega
theorem key_ne {R : List Int} (hd : R.Nodup) {a b : Nat} (ha : a < R.length) (hb : b < R.length) (h : a ≠ b) : keyAt R a ≠ keyAt R b := fun z => by
  unfold keyAt at z
  rw [List.getD_eq_getElem?_getD, List.getD_eq_getElem?_getD, List.getElem?_eq_getElem ha, List.getElem?_eq_getElem hb] at z
  have z : R[a] = R[b] := z
  have hp := List.pairwise_iff_getElem.mp (List.nodup_iff_pairwise_ne.mp hd)
  rcases Nat.lt_or_gt_of_ne h with q | q
  · exact hp a b ha hb q z
  · exact hp b a hb ha q z.symm
theorem key_end {n w : Nat} (hw : 1 ≤ w) {R : List Int} : ∀ (l : List Nat) (p : Nat), p < n → GoodFrom n w R p → Down n w p l → keyAt R p ≤ keyAt R (endOf p l)
  | [], p, _, _, _ => Int.le_refl _
  | b :: l, p, hp, g, ⟨hb, hd⟩ => by
    obtain ⟨b1, b2⟩ := kid_in hw hb
    rw [end_cons]
    exact Int.le_trans (g p (Nat.le_refl _) hp b hb) (key_end hw l b b2 (fun q h1 h2 => g q (by omega) h2) hd)
/-- a way undone is gone down again -/
theorem undo_down {n w : Nat} (hw : 1 ≤ w) {R : List Int} (hl : R.length = n) (hd : R.Nodup) : ∀ (l : List Nat) (f p : Nat) (way : List Nat) (lk : Nat), p < n → n - p ≤ f → GoodFrom n w R p → Down n w p l →
    (goDown n w f (undoS R (p :: l)) p way lk).1 = R ∧ (goDown n w f (undoS R (p :: l)) p way lk).2.1 = way ++ l
  | l, 0, p, way, lk, hp, hf, _, _ => absurd hf (by omega)
  | [], f + 1, p, way, lk, hp, hf, g, _ => by
    show (goDown n w (f + 1) R p way lk).1 = R ∧ (goDown n w (f + 1) R p way lk).2.1 = way ++ []
    by_cases h0 : kidL n w p = []
    · rw [goDown_leaf h0]
      exact ⟨rfl, (List.append_nil _).symm⟩
    · have := g p (Nat.le_refl _) hp _ (least_mem (ks := R) h0)
      rw [goDown_stay h0 (by omega)]
      exact ⟨rfl, (List.append_nil _).symm⟩
  | b :: l, f + 1, p, way, lk, hp, hf, g, ⟨hb, hdn⟩ => by
    obtain ⟨b1, b2⟩ := kid_in hw hb
    have hdw : Down n w p (b :: l) := ⟨hb, hdn⟩
    have at_ := undo_at hw hl (b :: l) p hp hdw
    obtain ⟨h1, h2, h3⟩ := down_lt hw l b b2 hdn
    have h0 : kidL n w p ≠ [] := List.ne_nil_of_mem hb
    have kb : keyAt (undoS R (p :: b :: l)) b = keyAt R p := by
      rw [at_, if_neg (by omega), if_pos List.mem_cons_self, (mem_kid.mp hb).2.2]
    have kp : keyAt (undoS R (p :: b :: l)) p = keyAt R (endOf b l) := by
      rw [at_, if_pos rfl, end_cons]
    have el : leastC (undoS R (p :: b :: l)) (kidL n w p) = b := least_one hb fun c hc hcb => by
      obtain ⟨c1, c2⟩ := kid_in hw hc
      have hcl : c ∉ b :: l := fun z => by
        rcases List.mem_cons.mp z with z | z
        · exact hcb z
        · have e : ∀ (l : List Nat) (b : Nat), Down n w b l → ∀ c ∈ l, (c - 1) / w = b ∨ (c - 1) / w ∈ l := by
            intro l
            induction l with
            | nil => intro b _ c hc; cases hc
            | cons d l ih =>
              intro b hd c hc
              rcases List.mem_cons.mp hc with rfl | hc
              · exact .inl (mem_kid.mp hd.1).2.2
              · rcases ih d hd.2 c hc with z | z
                · exact .inr (by rw [z]; exact List.mem_cons_self)
                · exact .inr (List.mem_cons_of_mem _ z)
          have pc := (mem_kid.mp hc).2.2
          rcases e l b hdn c z with z2 | z2
          · omega
          · have := h1 _ z2
            omega
      rw [kb, at_, if_neg (by omega), if_neg hcl]
      have := g p (Nat.le_refl _) hp c hc
      have := key_ne hd (a := p) (b := c) (by omega) (by omega) (by omega)
      omega
    have lt : keyAt (undoS R (p :: b :: l)) b < keyAt (undoS R (p :: b :: l)) p := by
      rw [kb, kp]
      have q1 := g p (Nat.le_refl _) hp b hb
      have q2 := key_end hw l b b2 (fun q a c => g q (by omega) c) hdn
      have := key_ne hd (a := p) (b := endOf b l) (by omega) (by omega) (by omega)
      omega
    rw [goDown_go h0 el lt]
    have es : swp (undoS R (p :: b :: l)) p b = undoS R (b :: l) := by
      show swp (swp (undoS R (b :: l)) p b) p b = _
      exact swp_swp (by rw [undo_len]; omega) (by rw [undo_len]; omega)
    rw [es]
    obtain ⟨r1, r2⟩ := undo_down hw hl hd l f b (way ++ [b]) (lk + (kidL n w p).length) b2 (by omega) (fun q a c => g q (by omega) c) hdn
    exact ⟨r1, by rw [r2, List.append_assoc]; rfl⟩
theorem down_mem {n w : Nat} : ∀ (l : List Nat) (b : Nat), Down n w b l → ∀ c ∈ l, (c - 1) / w = b ∨ (c - 1) / w ∈ l
  | [], _, _, _, hc => (nomatch hc)
  | d :: l, b, hd, c, hc => by
    rcases List.mem_cons.mp hc with rfl | hc
    · exact .inl (mem_kid.mp hd.1).2.2
    · rcases down_mem l d hd.2 c hc with z | z
      · exact .inr (by rw [z]; exact List.mem_cons_self)
      · exact .inr (List.mem_cons_of_mem _ z)
/-- a way undone leaves what stands behind good -/
theorem undo_good {n w : Nat} (hw : 1 ≤ w) {R : List Int} (hl : R.length = n) {p : Nat} {l : List Nat} (hp : p < n) (g : GoodFrom n w R p) (hd : Down n w p l) : GoodFrom n w (undoS R (p :: l)) (p + 1) := by
  have at_ := undo_at hw hl l p hp hd
  obtain ⟨h1, _, _⟩ := down_lt hw l p hp hd
  intro q hq hqn c hc
  obtain ⟨c1, c2⟩ := kid_in hw hc
  have pc := (mem_kid.mp hc).2.2
  have gq := g q (by omega) hqn c hc
  rw [at_ q, at_ c, if_neg (show ¬ q = p by omega), if_neg (show ¬ c = p by omega)]
  by_cases e1 : q ∈ l
  · rw [if_pos e1]
    have up : keyAt R ((q - 1) / w) ≤ keyAt R q := by
      have hk : q ∈ kidL n w ((q - 1) / w) := mem_kid.mpr ⟨by omega, hqn, rfl⟩
      have hge : p ≤ (q - 1) / w := by
        rcases down_mem l p hd q e1 with z | z
        · omega
        · have := h1 _ z
          omega
      have hlt : (q - 1) / w < n := by
        have : (q - 1) / w ≤ q - 1 := Nat.div_le_self _ _
        omega
      exact g _ hge hlt q hk
    by_cases e2 : c ∈ l
    · rw [if_pos e2, pc]
      exact up
    · rw [if_neg e2]
      omega
  · have e2 : c ∉ l := fun z => by
      rcases down_mem l p hd c z with y | y
      · omega
      · rw [pc] at y
        exact e1 y
    rw [if_neg e1, if_neg e2]
    exact gq
/-! ways by the tree -/
def pathL (w p s : Nat) : List Nat := (wayL w s).drop ((wayL w p).length - 1)
theorem way_end (w p : Nat) (hw : 1 ≤ w ∧ w ≤ 4) (hp : p ≤ 12) : ∃ x, wayL w p = x ++ [p] := by
  by_cases h0 : p = 0
  · subst h0
    exact ⟨[], way_zero w (by omega) hw.1⟩
  · exact ⟨_, way_rec w p hw hp (by omega)⟩
theorem way_down {n w : Nat} (hw : 1 ≤ w ∧ w ≤ 4) (hn : n ≤ 12) : ∀ (l : List Nat) (p : Nat), p < n → Down n w p l → wayL w (endOf p l) = wayL w p ++ l
  | [], p, _, _ => (List.append_nil _).symm
  | b :: l, p, hp, ⟨hb, hd⟩ => by
    obtain ⟨b1, b2⟩ := kid_in hw.1 hb
    rw [end_cons, way_down hw hn l b b2 hd, way_rec w b hw (by omega) (by omega), (mem_kid.mp hb).2.2, List.append_assoc]
    rfl
theorem path_down {n w : Nat} (hw : 1 ≤ w ∧ w ≤ 4) (hn : n ≤ 12) {p : Nat} {l : List Nat} (hp : p < n) (hd : Down n w p l) : pathL w p (endOf p l) = p :: l := by
  obtain ⟨x, e⟩ := way_end w p hw (by omega)
  unfold pathL
  rw [way_down hw hn l p hp hd, e, List.length_append, List.length_singleton, Nat.add_sub_cancel, List.append_assoc, List.drop_append_of_le_length (Nat.le_refl _), List.drop_length]
  rfl
theorem sub_down {n w : Nat} (hw : 1 ≤ w ∧ w ≤ 4) (hn : n ≤ 12) {p : Nat} {l : List Nat} (hp : p < n) (hd : Down n w p l) : endOf p l ∈ subL n w p := by
  obtain ⟨x, e⟩ := way_end w p hw (by omega)
  refine List.mem_filter.mpr ⟨List.mem_range.mpr (down_lt hw.1 l p hp hd).2.2, decide_eq_true ?_⟩
  rw [way_down hw hn l p hp hd, e]
  simp
theorem down_snoc {n w : Nat} : ∀ (l : List Nat) (p b : Nat), Down n w p l → b ∈ kidL n w (endOf p l) → Down n w p (l ++ [b])
  | [], p, b, _, hb => ⟨hb, trivial⟩
  | c :: l, p, b, ⟨h1, h2⟩, hb => ⟨h1, down_snoc l c b h2 (by rw [end_cons] at hb; exact hb)⟩
theorem end_snoc (l : List Nat) (p b : Nat) : endOf p (l ++ [b]) = b := by
  unfold endOf
  rw [List.getLastD_eq_getLast?, List.getLast?_append]
  rfl
theorem of_sub {n w : Nat} (hw : 1 ≤ w ∧ w ≤ 4) (hn : n ≤ 12) : ∀ (k s p : Nat), s ≤ k → s < n → p ∈ wayL w s → ∃ l, Down n w p l ∧ endOf p l = s
  | 0, s, p, hk, hs, hm => by
    obtain rfl : s = 0 := by omega
    rw [way_zero w (by omega) hw.1] at hm
    rw [List.mem_singleton.mp hm]
    exact ⟨[], trivial, rfl⟩
  | k + 1, s, p, hk, hs, hm => by
    by_cases h0 : s = 0
    · subst h0
      rw [way_zero w (by omega) hw.1] at hm
      rw [List.mem_singleton.mp hm]
      exact ⟨[], trivial, rfl⟩
    · rw [way_rec w s hw (by omega) (by omega)] at hm
      have hlt : (s - 1) / w ≤ s - 1 := Nat.div_le_self _ _
      rcases List.mem_append.mp hm with hm | hm
      · obtain ⟨l, h1, h2⟩ := of_sub hw hn k ((s - 1) / w) p (by omega) (by omega) hm
        exact ⟨l ++ [s], down_snoc l p s h1 (by rw [h2]; exact mem_kid.mpr ⟨by omega, hs, rfl⟩), end_snoc l p s⟩
      · rw [List.mem_singleton.mp hm]
        exact ⟨[], trivial, rfl⟩
/-! stops, and the rows behind them -/
def stpL (n w : Nat) (f : Nat → Nat) : Nat → List (Int × Int)
  | 0 => []
  | i + 1 => if kidL n w (n - 1 - i) = [] then stpL n w f i else stpL n w f i ++ [(((n - 1 - i : Nat) : Int), ((f (n - 1 - i) : Nat) : Int))]
def backL (n w : Nat) (f : Nat → Nat) (R : List Int) : Nat → List Int
  | 0 => R
  | j + 1 => if kidL n w j = [] then backL n w f R j else undoS (backL n w f R j) (pathL w j (f j))
theorem back_succ (n w : Nat) (f : Nat → Nat) (R : List Int) (j : Nat) : backL n w f R (j + 1) = if kidL n w j = [] then backL n w f R j else undoS (backL n w f R j) (pathL w j (f j)) := rfl
theorem bld_succ (n w : Nat) (ks : List Int) (i : Nat) : bld n w ks (i + 1) = bstep n w (bld n w ks i) (n - 1 - i) := rfl
theorem stp_succ (n w : Nat) (f : Nat → Nat) (i : Nat) : stpL n w f (i + 1) = if kidL n w (n - 1 - i) = [] then stpL n w f i else stpL n w f i ++ [(((n - 1 - i : Nat) : Int), ((f (n - 1 - i) : Nat) : Int))] := rfl
def StOk (n w : Nat) (f : Nat → Nat) : Prop := ∀ p, p < n → kidL n w p ≠ [] → f p ∈ subL n w p
theorem st_path {n w : Nat} {f : Nat → Nat} (hw : 1 ≤ w ∧ w ≤ 4) (hn : n ≤ 12) (h : StOk n w f) {p : Nat} (hp : p < n) (h0 : kidL n w p ≠ []) : ∃ l, Down n w p l ∧ endOf p l = f p ∧ pathL w p (f p) = p :: l := by
  obtain ⟨h1, h2⟩ := List.mem_filter.mp (h p hp h0)
  obtain ⟨l, a, b⟩ := of_sub hw hn (f p) (f p) p (Nat.le_refl _) (List.mem_range.mp h1) (of_decide_eq_true h2)
  exact ⟨l, a, b, by rw [← b]; exact path_down hw hn hp a⟩
theorem back_ok {n w : Nat} {f : Nat → Nat} (hw : 1 ≤ w ∧ w ≤ 4) (hn : n ≤ 12) (h : StOk n w f) {R : List Int} (hl : R.length = n) (g : GoodFrom n w R 0) : ∀ j, j ≤ n → (backL n w f R j).length = n ∧ (backL n w f R j).Perm R ∧ GoodFrom n w (backL n w f R j) j
  | 0, _ => ⟨hl, List.Perm.refl _, g⟩
  | j + 1, hj => by
    obtain ⟨a, b, c⟩ := back_ok hw hn h hl g j (by omega)
    unfold backL
    by_cases h0 : kidL n w j = []
    · rw [if_pos h0]
      exact ⟨a, b, fun p h1 h2 => c p (by omega) h2⟩
    · rw [if_neg h0]
      obtain ⟨l, d1, d2, d3⟩ := st_path hw hn h (show j < n by omega) h0
      rw [d3]
      exact ⟨by rw [undo_len]; exact a, (undo_perm hw.1 a l j (by omega) d1).trans b, undo_good hw.1 a (by omega) c d1⟩
/-- what is built of a row behind some stops -/
theorem bld_back {n w : Nat} {f : Nat → Nat} (hw : 1 ≤ w ∧ w ≤ 4) (hn : n ≤ 12) (h : StOk n w f) {R : List Int} (hl : R.length = n) (hd : R.Nodup) (g : GoodFrom n w R 0) : ∀ i, i ≤ n →
    (bld n w (backL n w f R n) i).1 = backL n w f R (n - i) ∧ (bld n w (backL n w f R n) i).2.1 = stpL n w f i
  | 0, _ => ⟨rfl, rfl⟩
  | i + 1, hi => by
    obtain ⟨ih1, ih2⟩ := bld_back hw hn h hl hd g i (by omega)
    have e : n - i = (n - 1 - i) + 1 := by omega
    have e2 : n - (i + 1) = n - 1 - i := by omega
    rw [e, back_succ] at ih1
    rw [e2, bld_succ, stp_succ]
    unfold bstep
    obtain ⟨a, b, c⟩ := back_ok hw hn h hl g (n - 1 - i) (by omega)
    generalize hp : n - 1 - i = p at *
    by_cases h0 : kidL n w p = []
    · rw [if_pos h0, if_pos h0]
      rw [if_pos h0] at ih1
      exact ⟨ih1, ih2⟩
    · rw [if_neg h0, if_neg h0]
      rw [if_neg h0] at ih1
      obtain ⟨l, d1, d2, d3⟩ := st_path hw hn h (show p < n by omega) h0
      rw [d3] at ih1
      obtain ⟨r1, r2⟩ := undo_down hw.1 a (b.nodup_iff.mpr hd) l 20 p [p] 0 (by omega) (by omega) c d1
      rw [ih1]
      refine ⟨r1, ?_⟩
      show (bld n w (backL n w f R n) i).2.1 ++ [_] = _
      rw [ih2, r2]
      have : lastW ([p] ++ l) = f p := by
        rw [← d2]
        unfold lastW endOf
        cases l with
        | nil => rfl
        | cons c l => simp [List.getLastD]
      rw [this]
/-- the stops of a row lead back to it -/
def bldF (n w : Nat) (ks : List Int) (p : Nat) : Nat := lastW (goDown n w 20 (bld n w ks (n - 1 - p)).1 p [p] 0).2.1
theorem last_end (p : Nat) (l : List Nat) : lastW ([p] ++ l) = endOf p l := by
  unfold lastW endOf
  cases l with
  | nil => rfl
  | cons c l => simp [List.getLastD]
theorem bldF_ok {n w : Nat} (hw : 1 ≤ w ∧ w ≤ 4) (hn : n ≤ 12) {ks : List Int} (hl : ks.length = n) : StOk n w (bldF n w ks) := fun p hp _ => by
  obtain ⟨l, d1, d2, _⟩ := down_undo hw.1 20 (bld n w ks (n - 1 - p)).1 p [p] 0 (by rw [bld_len]; exact hl) hp
  unfold bldF
  rw [d2, last_end]
  exact sub_down hw hn hp d1
theorem bld_stp {n w : Nat} (ks : List Int) : ∀ i, i ≤ n → (bld n w ks i).2.1 = stpL n w (bldF n w ks) i
  | 0, _ => rfl
  | i + 1, hi => by
    have ih := bld_stp (n := n) (w := w) ks i (by omega)
    rw [bld_succ, stp_succ]
    unfold bstep
    by_cases h0 : kidL n w (n - 1 - i) = []
    · rw [if_pos h0, if_pos h0]
      exact ih
    · rw [if_neg h0, if_neg h0]
      show (bld n w ks i).2.1 ++ [_] = _
      rw [ih]
      unfold bldF
      rw [show n - 1 - (n - 1 - i) = i by omega]
theorem back_bld {n w : Nat} (hw : 1 ≤ w ∧ w ≤ 4) (hn : n ≤ 12) {ks : List Int} (hl : ks.length = n) : ∀ j, j ≤ n → backL n w (bldF n w ks) (bld n w ks n).1 j = (bld n w ks (n - j)).1
  | 0, _ => rfl
  | j + 1, hj => by
    have ih := back_bld hw hn hl j (by omega)
    rw [back_succ]
    obtain ⟨m, em⟩ : ∃ m, n - j = m + 1 := ⟨n - j - 1, by omega⟩
    have e2 : n - (j + 1) = m := by omega
    have ep : n - 1 - m = j := by omega
    rw [em, bld_succ, ep] at ih
    unfold bstep at ih
    rw [e2]
    by_cases h0 : kidL n w j = []
    · rw [if_pos h0] at ih ⊢
      exact ih
    · rw [if_neg h0] at ih ⊢
      obtain ⟨l, d1, d2, d3⟩ := down_undo (n := n) hw.1 20 (bld n w ks m).1 j [j] 0 (by rw [bld_len]; exact hl) (by omega)
      have ef : bldF n w ks j = endOf j l := by
        unfold bldF
        rw [show n - 1 - j = m by omega, d2, last_end]
      rw [ih, ef, path_down hw hn (by omega) d1]
      exact d3
/-- stop by stop, from the last one on -/
def undoP (w : Nat) (R : List Int) (x : Int × Int) : List Int := undoS R (pathL w x.1.toNat x.2.toNat)
theorem back_stp {n w : Nat} {f : Nat → Nat} {R : List Int} : ∀ i, i ≤ n → (stpL n w f i).foldr (fun x r => undoP w r x) (backL n w f R (n - i)) = backL n w f R n
  | 0, _ => rfl
  | i + 1, hi => by
    have ih := back_stp (n := n) (w := w) (f := f) (R := R) i (by omega)
    have e : n - i = (n - 1 - i) + 1 := by omega
    rw [e, back_succ] at ih
    rw [show n - (i + 1) = n - 1 - i by omega, stp_succ]
    by_cases h0 : kidL n w (n - 1 - i) = []
    · rw [if_pos h0] at ih ⊢
      exact ih
    · rw [if_neg h0] at ih ⊢
      rw [List.foldr_append]
      show List.foldr _ (undoP w (backL n w f R (n - 1 - i)) (((n - 1 - i : Nat) : Int), ((f (n - 1 - i) : Nat) : Int))) _ = _
      unfold undoP
      rw [Int.toNat_natCast, Int.toNat_natCast]
      exact ih

end
end Tw

set_option Elab.async false
set_option linter.all false
set_option maxRecDepth 100000
set_option maxHeartbeats 2000000
namespace Tw
open PySem PySem.Spec PyProof.Rows L2
section
variable {P : Program} {w : World} {K : PySem.W.Frag} {mg : Str → Option Value} {base : Heap} {A : Ad}
open LamX (ExtN Tabs TabS)
/-- a pair as data -/
def prP (p : Int × Int) : PyData := .tuple [.int p.1, .int p.2]
theorem prP_dp (K : PySem.W.Frag) {H : Hp} {v : V} {p : Int × Int} (h : PrAt H v p) : Dp K H v (prP p) := by
  obtain ⟨t, rfl, e⟩ := h
  exact .tup (SqT.of e) (.cons (.int _) (.cons (.int _) .nil))
theorem prPs_dp (K : PySem.W.Frag) {H : Hp} : ∀ {xs : List V} {ps : List (Int × Int)}, PrsAt H xs ps → DpAll K H xs (ps.map prP)
  | _, _, .nil => .nil
  | _, _, .cons a b => .cons (prP_dp K a) (prPs_dp K b)
theorem prPs_lay : ∀ ps : List (Int × Int), PyData.canLayAll0 (ps.map prP) = true
  | [] => rfl
  | p :: ps => by
    rw [List.map_cons, PyData.canLayAll0, prPs_lay ps]
    rfl
theorem prPs_deep : ∀ ps : List (Int × Int), PyData.depthAll (ps.map prP) ≤ 3
  | [] => by simp [PyData.depthAll]
  | p :: ps => by
    have := prPs_deep ps
    have hp : PyData.depth (prP p) ≤ 3 := by simp [prP, PyData.depth, PyData.depthAll]
    simp only [List.map_cons, PyData.depthAll]
    omega
theorem prT_shaped (ps : List (Int × Int)) : SeqAt.shaped (.tuple (ps.map prP)) = true := by
  have := prPs_deep ps
  unfold SeqAt.shaped
  rw [Bool.and_eq_true]
  refine ⟨?_, decide_eq_true ?_⟩
  · simp only [PyData.canLay0]
    exact prPs_lay ps
  · simp only [PyData.depth]
    omega
theorem prPs_all : ∀ ps qs : List (Int × Int), PyData.eqvAll (ps.map prP) (qs.map prP) = decide (ps = qs)
  | [], [] => by simp [PyData.eqvAll]
  | [], q :: qs => by simp [PyData.eqvAll]
  | p :: ps, [] => by simp [PyData.eqvAll]
  | p :: ps, q :: qs => by
    simp only [List.map_cons, PyData.eqvAll, prPs_all ps qs]
    have e : PyData.eqv (prP p) (prP q) = decide (p = q) := by
      have e : PyData.eqv (.tuple [.int p.1, .int p.2]) (.tuple [.int q.1, .int q.2]) = ((p.1 == q.1) && (p.2 == q.2)) := by
        simp [PyData.eqv, PyData.eqvAll]
      unfold prP
      rw [e]
      by_cases h1 : p.1 = q.1
      · by_cases h2 : p.2 = q.2
        · rw [decide_eq_true (Prod.ext h1 h2)]
          simp [h1, h2]
        · rw [decide_eq_false (fun z => h2 (congrArg Prod.snd z))]
          simp [h2]
      · rw [decide_eq_false (fun z => h1 (congrArg Prod.fst z))]
        simp [h1]
    rw [e]
    by_cases h1 : p = q
    · by_cases h2 : ps = qs <;> simp [h1, h2]
    · simp [h1]
theorem prT_eqv (ps qs : List (Int × Int)) : PyData.eqv (.tuple (ps.map prP)) (.tuple (qs.map prP)) = decide (ps = qs) := by
  rw [← prPs_all]
  simp [PyData.eqv]
theorem prT_dp (K : PySem.W.Frag) {H : Hp} {t : Addr} {xs : List V} {ps : List (Int × Int)} (h : H t = some (.tup xs)) (hp : PrsAt H xs ps) : Dp K H (.ref t) (.tuple (ps.map prP)) := .tup (SqT.of h) (prPs_dp K hp)
theorem nat_dec (a b : Nat) : decide (V.int (a : Nat) = V.int (b : Nat)) = decide (a = b) := by
  by_cases h : a = b
  · rw [decide_eq_true h, decide_eq_true (by rw [h])]
  · rw [decide_eq_false h, decide_eq_false (fun z => h (by injection z with z; omega))]
/-! build -/
theorem last_wz {l : List Nat} (h : l ≠ []) : atI ((wz l).map V.int) (-1) = some (V.int ((lastW l : Nat) : Int)) := by
  obtain ⟨i, y, rfl⟩ : ∃ i y, l = i ++ [y] := ⟨l.dropLast, l.getLast h, (List.dropLast_concat_getLast h).symm⟩
  have e : (wz (i ++ [y])).map V.int = (wz i).map V.int ++ [V.int (y : Nat)] := by unfold wz; rw [List.map_append, List.map_append]; rfl
  have e2 : lastW (i ++ [y]) = y := by unfold lastW; simp
  rw [e, e2]
  exact last_at
theorem pl_at {n i : Nat} {x : V} (h : (pl n)[i]? = some x) : i < n ∧ x = V.int (i : Nat) := by
  unfold pl at h
  rw [List.getElem?_map] at h
  by_cases hi : i < n
  · rw [List.getElem?_range hi] at h
    exact ⟨hi, (Option.some.inj h).symm⟩
  · rw [List.getElem?_eq_none (by rw [List.length_range]; omega)] at h
    cases h
def spBuild (A : Ad) : Sp := fun vs H Q _ => ∃ (r w : Nat) (ks : List Int), vs = [.ref r, .int w] ∧ (1 ≤ w ∧ w ≤ 4) ∧ RowIn H r ks ∧ Tabs (TT A) H ∧
  ∀ (H' : Hp) (q : Addr), ExtN H H' → Tabs (TT A) H' → BuiltAt A.CB H' q (bld ks.length w ks ks.length).1 (bld ks.length w ks ks.length).2.1 (bld ks.length w ks ks.length).2.2.1 (bld ks.length w ks ks.length).2.2.2 → Q (.ref q) H'
theorem ok_build (T : Tx K mg A) (TB : LamX.TabB base mg A.c_least_child A.P_least_child) : FnOk P w K mg base CX0 8 A.f_build A.d_build ["row", "arms"] (spBuild A) := by
  obtain ⟨mo, ko⟩ := kb_of T
  obtain ⟨md, kd⟩ := kb_down T
  refine T.F_build.ok sc_build (fun vs H Q E h => ?_) (fun cdv B outer s H vs Q E hr h => ?_)
  · obtain ⟨r, w, ks, rfl, _⟩ := h
    rfl
  · obtain ⟨r, w, ks, rfl, hw, hrow, hT, q⟩ := h
    have nd := sc_build.nd
    refine ⟨_, PSs.nox (pss_cons (ps_set (i := 2) nd rfl (Or.inl rfl) (pe_cmethK (pe_glob (v := .ref A.C) (by rfl) T.mC (relR _)) T.cr T.cof (ok_of T) (hr.mono (by decide)) ko pass0 (pa_cons (pv 0) pa_nil) (pk_cons (pv 1) pk_nil)))
      (C8.pss_cut (ps_set (i := 3) nd rfl (Or.inl rfl) (pe_callTy call_tuple_of (by rfl) T.g_tuple (by decide +kernel) (pa_cons (pv 0) pa_nil)))
      (pss_cons (ps_set (i := 4) nd rfl (Or.inl rfl) (pe_lst pa_nil))
      (pss_cons (ps_set (i := 5) nd rfl (Or.inl rfl) pe_int)
      (pss_cons (ps_set (i := 6) nd rfl (Or.inl rfl) pe_int)
      (C8.pss_cut (ps_for PassesOwn.never rfl (pi_reversed (by rfl) T.g_reversed (pa_cons (pe_callTy (call_listO T.D_t___iter__ (ok_iter T) (b_iter T) T.D_t___len__ (ok_len T) (b_len T) (hr.mono (by decide))) (by rfl) T.g_list (by decide +kernel) (pa_cons (pv 2) pa_nil)) pa_nil)) (pg_name (i := 7) nd rfl (Or.inl rfl)) (pss_one (ps_if (pt_truth (pe_gi T.D_t___getitem__ (ok_gi T) (hr.mono (by decide)) (b_gi T) pass0 (pv 2) (pv 7)) (fun _ => rfl)) (pss_cons (ps_set (i := 8) nd rfl (Or.inl rfl) (pe_callN (ok_down T TB) (hr.mono (by decide)) (by rfl) T.m_sift_down T.F_sift_down.kp kd pass0 (pa_cons (pv 3) (pa_cons (pv 7) pa_nil)) (pk_cons (pv 1) pk_nil)))
      (pss_cons (ps_set (i := 3) nd rfl (Or.inl rfl) (pe_fld (pv 8) rfl))
      (pss_cons (ps_expr (pe_bm PySem.F.plainAttrs_list PySem.F.slot_list_append PySem.F.type_list_append mt_append (pv 4) (pa_cons (pe_tup (pa_cons (pv 7) (pa_cons (pe_ix (r := rIx K) ix_seq (pe_fld (pv 8) rfl) (pe_un un_neg pe_int) (fun _ _ => rfl)) pa_nil))) pa_nil)))
      (pss_cons (ps_aug (i := 5) nd rfl (Or.inl rfl) (pe_op op_sub (pe_callB call_len_seq (by rfl) T.g_len PySem.boot_len (pa_cons (pe_fld (pv 8) rfl) pa_nil)) pe_int) ip_add)
      (pss_one (ps_aug (i := 6) nd rfl (Or.inl rfl) (pe_fld (pv 8) rfl) ip_add)))))) pss_nil)))
      (pss_one (ps_ret (pe_make T.mkCB (ok_bi T) (hr.mono (by decide)) (by rfl) T.mCB (b_bi T) .nil pass0 (pa_cons (pv 3) (pa_cons (pv 4) (pa_cons (pv 5) (pa_cons (pv 6) pa_nil))))))))))))), ?_⟩
    refine ⟨rfl, _, rfl, _, rfl, rfl, rfl, r, w, ks, rfl, hw, hrow.1, hrow.2.1, hrow.2.2, fun H1 tr s1 p0 t1 => ?_⟩
    have hk12 := hrow.2.1
    have hkb := hrow.2.2
    generalize en : ks.length = n at *
    refine ⟨fun σ' H' => ∃ hp : Addr, σ' = [some (.ref r), some (.int w), some (.ref tr), some (.ref hp), none, none, none, none, none] ∧ Same H1 H' ∧ H' hp = some (.tup (ks.map V.int)), ?_, ?_⟩
    · rcases hrow.1.same s1 with h | h
      · exact ⟨_, rfl, r, _, rfl, .inl ⟨SqL.of h, fun t ht => ⟨t, rfl, Same.up ht, upd_same⟩⟩⟩
      · exact ⟨_, rfl, r, _, rfl, .inr ⟨SqT.of h, r, rfl, Same.refl _, h⟩⟩
    rintro σ' H2 ⟨hp, rfl, s2, e2⟩
    refine ⟨Nat.zero_le _, fun D nD => ?_⟩
    have s3 : Same H2 (upd H2 D (.lst [])) := Same.up nD
    have s13 : Same H (upd H2 D (.lst [])) := s1.trans (s2.trans s3)
    have tt3 := t1.same (s2.trans s3)
    refine ⟨fun σ' H' => ∃ (hp : Addr) (x7 x8 : Option V) (xs : List V), σ' = [some (.ref r), some (.int w), some (.ref tr), some (.ref hp), some (.ref D), some (.int ((bld n w ks n).2.2.1 : Nat)), some (.int ((bld n w ks n).2.2.2 : Nat)), x7, x8] ∧ ExtN H2 H' ∧ Tabs (TT A) H' ∧ H' hp = some (.tup ((bld n w ks n).1.map V.int)) ∧ H' D = some (.lst xs) ∧ PrsAt H' xs (bld n w ks n).2.1, ?_, ?_⟩
    · obtain ⟨dx, l, h1, h2⟩ := tt3.ob
      refine ⟨_, rfl, tr, dx, _, l, pl n, rfl, h1, tf_pl _ _ _, SqT.of h2, by rw [pl_len]; omega, ⟨tr, n, w, rfl, tt3, n, rfl, by omega, rfl⟩, fun c nc => ?_⟩
      have nDc : D ≠ c := ne_of_none (upd_same (H := H2) (a := D)) nc
      have two0 : TwoE (TT A) H2 D c [] (pl n) (upd (upd H2 D (.lst [])) c (.lst (pl n))) :=
        ⟨extN_of (s3.trans (Same.up nc)), ((hT.ext s13).ext (Same.up nc)), (Same.up nc) _ _ upd_same, upd_same, nD, s3.free nc, nDc⟩
      have e24 := (s3.trans (Same.up (o := .lst (pl n)) nc)) _ _ e2
      have tt4 := tt3.same (Same.up (o := .lst (pl n)) nc)
      generalize upd (upd H2 D (.lst [])) c (.lst (pl n)) = H4 at two0 e24 tt4
      refine ⟨c, _, rfl, SqL.of two0.w, RT.for_Itv (fun i σ' H' => ∃ (hp : Addr) (x7 x8 : Option V) (xs : List V), σ' = [some (.ref r), some (.int w), some (.ref tr), some (.ref hp), some (.ref D), some (.int ((bld n w ks i).2.2.1 : Nat)), some (.int ((bld n w ks i).2.2.2 : Nat)), x7, x8] ∧
        TwoE (TT A) H2 D c xs (pl n) H' ∧ TreeAt A.C H' tr n w ∧ H' hp = some (.tup ((bld n w ks i).1.map V.int)) ∧ PrsAt H' xs (bld n w ks i).2.1 ∧ i ≤ n) ?_ ?_ ?_ ?_⟩
      · exact ⟨hp, none, none, [], rfl, two0, tt4, e24, .nil, Nat.zero_le _⟩
      · rintro i σ' H' ⟨_, _, _, _, _, two, _⟩
        exact SqL.of two.w
      · rintro i x σ' H' hi hx ⟨hp, x7, x8, xs, rfl, two, tt, ehp, hps, hi2⟩
        rw [pl_len] at hi hx
        obtain ⟨_, rfl⟩ := pl_at hx
        have hpn : n - 1 - i < n := by omega
        obtain ⟨dx, l, h1, h2⟩ := tt.ob
        refine ⟨_, rfl, _, rfl, tr, dx, _, rfl, h1, tr, n, w, n - 1 - i, rfl, tt, hpn, fun H5 ch s5 hch => ?_⟩
        rw [kids_eq, kids_same n (by omega) w (by omega) (n - 1 - i) hpn hw.1] at hch
        refine ⟨!(vi (kidL n w (n - 1 - i))).isEmpty, .inr (.inl ⟨_, SqT.of hch, rfl⟩), ?_⟩
        have two5 := two.same s5
        have ehp5 := s5 _ _ ehp
        have hps5 := hps.same s5
        have tt5 := tt.same s5
        by_cases h0 : kidL n w (n - 1 - i) = []
        · have eb : bld n w ks (i + 1) = bld n w ks i := by rw [bld, bstep, if_pos h0]
          rw [h0]
          refine iteF ?_
          rw [eb]
          exact ⟨hp, _, _, xs, rfl, two5, tt5, ehp5, hps5, by omega⟩
        · have e0 : (!(vi (kidL n w (n - 1 - i))).isEmpty) = true := by
            cases e : kidL n w (n - 1 - i) with
            | nil => exact absurd e h0
            | cons a b => rfl
          rw [e0]
          have hl := (bld_len n w ks i).trans en
          have hperm := bld_perm hw.1 en i (by omega)
          have eb : bld n w ks (i + 1) = ((goDown n w 20 (bld n w ks i).1 (n - 1 - i) [n - 1 - i] 0).1, (bld n w ks i).2.1 ++ [(((n - 1 - i : Nat) : Int), ((lastW (goDown n w 20 (bld n w ks i).1 (n - 1 - i) [n - 1 - i] 0).2.1 : Nat) : Int))], (bld n w ks i).2.2.1 + ((goDown n w 20 (bld n w ks i).1 (n - 1 - i) [n - 1 - i] 0).2.1.length - 1), (bld n w ks i).2.2.2 + (goDown n w 20 (bld n w ks i).1 (n - 1 - i) [n - 1 - i] 0).2.2) := by rw [bld, bstep, if_neg h0]
          have hst := bld_stops n w ks i
          generalize bld n w ks i = st at *
          generalize er : goDown n w 20 st.1 (n - 1 - i) [n - 1 - i] 0 = res at *
          have hwne : res.2.1 ≠ [] := er ▸ down_way n w 20 st.1 (n - 1 - i) [n - 1 - i] 0 (by simp)
          have hwl : res.2.1.length ≤ 21 := by
            have := down_ways n w 20 st.1 (n - 1 - i) [n - 1 - i] 0
            rw [er, List.length_singleton] at this
            omega
          refine iteT ⟨_, rfl, _, rfl, _, rfl, rfl, rfl, hp, n - 1 - i, w, st.1, rfl, hw, ⟨.inr ehp5, by omega, fun z hz => hkb z (hperm.mem_iff.mp hz)⟩, by omega, two5.t, fun H6 z e6 t6 rz => ?_⟩
          rw [hl, er] at rz
          have two6 := two5.ext e6 t6
          have hps6 := hps5.ext e6
          have tt6 := tt5.ext e6
          obtain ⟨dz, z1, z2, g1, g2, g3⟩ := rz
          refine ⟨_, rfl, z, A.CS, dz, _, _, rfl, g1, T.cTS, T.nRow, zf_row _ _ _, ?_⟩
          refine ⟨_, rfl, .inl ⟨rfl, _, SqL.of two6.d⟩, _, rfl, _, rfl, z, A.CS, dz, _, _, rfl, g1, T.cTS, T.nWay, zf_way _ _ _, _, rfl, .inr (.inl ⟨z2, _, _, _, rfl, rfl, SqT.of g3, last_wz hwne, by show 2 ≤ sizeLine; decide, fun t nt => ?_⟩)⟩
          have s7 : Same H6 (upd H6 t (.tup [V.int ((n - 1 - i : Nat) : Int), V.int ((lastW res.2.1 : Nat) : Int)])) := Same.up nt
          have et : upd H6 t (.tup [V.int ((n - 1 - i : Nat) : Int), V.int ((lastW res.2.1 : Nat) : Int)]) t = some (.tup [V.int ((n - 1 - i : Nat) : Int), V.int ((lastW res.2.1 : Nat) : Int)]) := upd_same
          generalize upd H6 t (.tup [V.int ((n - 1 - i : Nat) : Int), V.int ((lastW res.2.1 : Nat) : Int)]) = H7 at s7 et
          have two7 := two6.same s7
          have hps7 := (hps6.same s7).push (x := .ref t) (p := (((n - 1 - i : Nat) : Int), ((lastW res.2.1 : Nat) : Int))) ⟨t, rfl, et⟩
          have xl : xs.length = st.2.1.length := Paired.length hps
          refine ⟨D, _, _, rfl, rfl, two7.d, small1000 (by omega), ?_⟩
          have two8 : TwoE (TT A) H2 D c (xs ++ [.ref t]) (pl n) (upd H7 D (.lst (xs ++ [.ref t]))) := two7.setD
          have hps8 := PrsAt.put (o := .lst (xs ++ [.ref t])) two7.d hps7
          have sz : ∀ b o, H6 b = some o → (∀ ys, o ≠ .lst ys) → upd H7 D (.lst (xs ++ [.ref t])) b = some o := fun b o e nl => by
            rw [upd_ne (fun y => by rw [y, two6.d] at e; exact nl _ (Option.some.inj e).symm)]
            exact s7 _ _ e
          have tt8 : TreeAt A.C (upd H7 D (.lst (xs ++ [.ref t]))) tr n w := ⟨let ⟨dx, l, a, b⟩ := tt6.ob; ⟨dx, l, sz _ _ a (fun _ y => nomatch y), sz _ _ b (fun _ y => nomatch y)⟩, tt6.hn, tt6.hw⟩
          have g18 := sz _ _ g1 (fun _ y => nomatch y)
          have g28 := sz _ _ g2 (fun _ y => nomatch y)
          have g38 := sz _ _ g3 (fun _ y => nomatch y)
          generalize upd H7 D (.lst (xs ++ [.ref t])) = H8 at *
          refine ⟨_, rfl, _, rfl, z, A.CS, dz, _, _, rfl, g18, T.cTS, T.nWay, zf_way _ _ _, z2, _, rfl, .inr (SqT.of g38), _, _, rfl, rfl, _, _, rfl, rfl, ?_⟩
          refine ⟨_, rfl, _, rfl, z, A.CS, dz, _, _, rfl, g18, T.cTS, T.nLooks, zf_looks _ _ _, _, _, rfl, rfl, ?_⟩
          rw [eb]
          refine ⟨z1, some (V.int ((n - 1 - i : Nat) : Int)), some (.ref z), xs ++ [.ref t], ?_, two8, tt8, g28, hps8, by omega⟩
          have lw : ((wz res.2.1).map V.int).length = res.2.1.length := by unfold wz; rw [List.length_map, List.length_map]
          have hpos := List.length_pos_iff.mpr hwne
          rw [lw]
          show ([some (.ref r), some (.int w), some (.ref tr), some (.ref z1), some (.ref D), some (V.int ((st.2.2.1 : Int) + ((res.2.1.length : Int) - 1))), some (V.int ((st.2.2.2 : Int) + (res.2.2 : Int))), some (V.int ((n - 1 - i : Nat) : Int)), some (.ref z)] : List (Option V)) = _
          rw [show (st.2.2.1 : Int) + ((res.2.1.length : Int) - 1) = ((st.2.2.1 + (res.2.1.length - 1) : Nat) : Int) by omega, show (st.2.2.2 : Int) + (res.2.2 : Int) = ((st.2.2.2 + res.2.2 : Nat) : Int) by omega]
      · rintro σ' H' ⟨hp, x7, x8, xs, rfl, two, tt, ehp, hps, _⟩
        rw [pl_len] at *
        exact ⟨hp, x7, x8, xs, rfl, two.e, two.t, ehp, two.d, hps⟩
    · rintro σ' H' ⟨hp, x7, x8, xs, rfl, e', t', ehp, hD, hps⟩
      have hst := bld_stops n w ks n
      refine ⟨_, rfl, _, rfl, _, rfl, _, rfl, fun x dx2 nx ndx nex => ?_⟩
      have s5 := new_up (C := A.CB) nx ndx nex
      refine ⟨x, dx2, hp, D, _, _, _, xs, _, rfl, upd_same, .inr (s5 _ _ ehp), .inl (s5 _ _ hD), hps.same s5, by omega, fun H6 k6 st => ⟨rfl, q H6 x ?_ ?_ st⟩⟩
      · exact (extN_of (s1.trans s2)).trans (e'.trans (extN_of (new_same nx ndx k6)))
      · exact t'.ext (new_same nx ndx k6)
theorem kb_build (T : Tx K mg A) : ∃ mv : List Value, KBn K A.d_build ["row", "arms"] 1 ["arms"] (fun us ws => us ++ (mv ++ ws)) (fun vs zs => vs ++ zs) := by
  obtain ⟨mv, h⟩ := T.F_build.kbinds0 (ps := ["row", "arms"]) 1 ["arms"] [] (fun us mv ws => us ++ (mv ++ ws)) (by simp) (by simp) (fun r1 r2 r3 => r1.append (r2.append r3))
    (fun D doc pm an cdv ct us mv ws h1 h2 h3 => by
      match us, mv, ws, h1, h2, h3 with
      | [a], [], [c], _, _, _ => rfl)
  exact ⟨mv, h⟩
theorem bd_build (T : Tx K mg A) : ∃ ds, Vals [V.int 2] ds ∧ L2.Binds K A.d_build ["row", "arms"] ds := by
  refine T.F_build.binds0 1 (by simp) rfl (fun D doc pm an cdv ct us ks h1 h2 => ?_)
  match us, ks, h1, h2 with
  | [a], [c], _, _ => exact ⟨_, _, _, _, _, _, rfl, rfl, rfl⟩

end
end Tw

set_option Elab.async false
set_option linter.all false
set_option maxRecDepth 100000
set_option maxHeartbeats 2000000
namespace Tw
open PySem PySem.Spec PyProof.Rows L2
section
variable {P : Program} {w : World} {K : PySem.W.Frag} {mg : Str → Option Value} {base : Heap} {A : Ad}
open LamX (ExtN Tabs TabS)
/-- what the law's own building tells -/
def BDueAt (H : Hp) (d : Addr) (st : BSt) : Prop := ∃ (t1 t2 : Addr) (xs : List V), H d = some (.tup [.ref t1, .ref t2, .int (st.2.2.1 : Nat), .int (st.2.2.2 : Nat)]) ∧ H t1 = some (.tup (st.1.map V.int)) ∧ H t2 = some (.tup xs) ∧ PrsAt H xs st.2.1
theorem BDueAt.same {H H' : Hp} {d : Addr} {st : BSt} (h : BDueAt H d st) (s : Same H H') : BDueAt H' d st := let ⟨t1, t2, xs, a, b, c, e⟩ := h; ⟨t1, t2, xs, s _ _ a, s _ _ b, s _ _ c, e.same s⟩
theorem rev_pl {n i : Nat} {x : V} (h : ((pl n).reverse)[i]? = some x) : i < n ∧ x = V.int ((n - 1 - i : Nat) : Int) := by
  have hi := (List.getElem?_eq_some_iff.mp h).1
  rw [List.length_reverse, pl_len] at hi
  rw [List.getElem?_reverse (by rw [pl_len]; exact hi), pl_len] at h
  exact ⟨hi, (pl_at h).2⟩
def spLBuilt : Sp := fun vs H Q _ => ∃ (r w : Nat) (ks : List Int), vs = [.ref r, .int w] ∧ (1 ≤ w ∧ w ≤ 4) ∧ Sq H r (ks.map V.int) ∧ ks.length ≤ 12 ∧
  ∀ (H' : Hp) (d : Addr), Same H H' → BDueAt H' d (bld ks.length w ks ks.length) → Q (.ref d) H'
theorem ok_lbuilt (T : Tx K mg A) : FnOk P w K mg base CX0 5 A.f__law_built A.d__law_built ["row", "wide"] spLBuilt := by
  refine T.F__law_built.ok sc__law_built (fun vs H Q E h => ?_) (fun cdv B outer s H vs Q E hr h => ?_)
  · obtain ⟨r, w, ks, rfl, _⟩ := h
    rfl
  · obtain ⟨r, w, ks, rfl, hw, hrow, hk12, q⟩ := h
    have nd := sc__law_built.nd
    have hu := hr.units
    refine ⟨_, (C8.pss_cut (ps_asg (pe_tup (pa_cons (pe_callTy (r := rTupOf K) call_tupK (by rfl) T.g_tuple (by decide +kernel) (pa_cons (pv 0) pa_nil)) (pa_cons (pe_lst pa_nil) (pa_cons pe_int (pa_cons pe_int pa_nil))))) (pg_tup rfl (pgs_cons (pg_name (i := 2) nd rfl (Or.inl rfl)) (pgs_cons (pg_name (i := 3) nd rfl (Or.inl rfl)) (pgs_cons (pg_name (i := 4) nd rfl (Or.inl rfl)) (pgs_cons (pg_name (i := 5) nd rfl (Or.inl rfl)) pgs_nil))))))
      (C8.pss_cut (ps_for PassesOwn.never rfl (pi_list (pe_revL (pe_listRg rfl (by rfl) T.g_list (prg_1 (by rfl) T.g_range (pe_callB call_len_seq (by rfl) T.g_len PySem.boot_len (pa_cons (pv 0) pa_nil)))))) (pg_name (i := 6) nd rfl (Or.inl rfl)) (pss_one (ps_if (pt_cmpR (op_neD hu) (pe_call (ok_lkid T) (hr.mono (by decide)) (by rfl) T.m__law_children T.F__law_children.kp (b_lkid T) .nil pass0 (pa_cons (pv 1) (pa_cons (pe_callB call_len_seq (by rfl) T.g_len PySem.boot_len (pa_cons (pv 0) pa_nil)) (pa_cons (pv 6) pa_nil)))) (pe_lst pa_nil) (nomark _)) (pss_cons (ps_set (i := 7) nd rfl (Or.inl rfl) (pe_call (ok_ldown T) (hr.mono (by decide)) (by rfl) T.m__law_down T.F__law_down.kp (b_ldown T) .nil pass0 (pa_cons (pv 2) (pa_cons (pv 1) (pa_cons (pv 6) pa_nil)))))
      (pss_cons (ps_par (i := 2) (j := 5) rfl nd rfl rfl (by decide) rfl rfl (pa_cons (pe_ix (r := rIx K) ix_seq (pv 7) pe_int (fun _ _ => rfl)) (pa_cons (pe_op op_add (pv 5) (pe_ix (r := rIx K) ix_seq (pv 7) pe_int (fun _ _ => rfl))) pa_nil)) rfl)
      (pss_cons (ps_set (i := 4) nd rfl (Or.inl rfl) (pe_op op_sub (pe_op op_add (pv 4) (pe_callB call_len_seq (by rfl) T.g_len PySem.boot_len (pa_cons (pe_ix (r := rIx K) ix_seq (pv 7) pe_int (fun _ _ => rfl)) pa_nil))) pe_int))
      (pss_one (ps_expr (pe_bm PySem.F.plainAttrs_list PySem.F.slot_list_append PySem.F.type_list_append mt_append (pv 3) (pa_cons (pe_tup (pa_cons (pv 6) (pa_cons (pe_ix (r := rIx K) ix_seq (pe_ix (r := rIx K) ix_seq (pv 7) pe_int (fun _ _ => rfl)) (pe_un un_neg pe_int) (fun _ _ => rfl)) pa_nil))) pa_nil))))))) pss_nil)))
      (pss_one (ps_ret (pe_tup (pa_cons (pv 2) (pa_cons (pe_callTy call_tuple_of (by rfl) T.g_tuple (by decide +kernel) (pa_cons (pv 3) pa_nil)) (pa_cons (pv 4) (pa_cons (pv 5) pa_nil))))))))), ?_⟩
    generalize en : ks.length = n at *
    refine ⟨fun σ' H' => ∃ (hp D : Addr), σ' = [some (.ref r), some (.int w), some (.ref hp), some (.ref D), some (.int (0 : Nat)), some (.int (0 : Nat)), none, none] ∧ Same H H' ∧ H' hp = some (.tup (ks.map V.int)) ∧ H' D = some (.lst []) ∧ H D = none, ?_, ?_⟩
    · have go : ∀ (H1 : Hp) (hp D t : Addr), Same H H1 → H1 hp = some (.tup (ks.map V.int)) → H1 D = none → upd H1 D (.lst []) t = none →
          Same H (upd (upd H1 D (.lst [])) t (.tup [V.ref hp, .ref D, .int 0, .int 0])) ∧ upd (upd H1 D (.lst [])) t (.tup [V.ref hp, .ref D, .int 0, .int 0]) hp = some (.tup (ks.map V.int)) ∧ upd (upd H1 D (.lst [])) t (.tup [V.ref hp, .ref D, .int 0, .int 0]) D = some (.lst []) ∧ H D = none := fun H1 hp D t s1 e1 nD nt =>
        ⟨s1.trans ((Same.up nD).trans (Same.up nt)), (Same.up nt) _ _ ((Same.up nD) _ _ e1), (Same.up nt) _ _ upd_same, s1.free nD⟩
      rcases hrow with h | h
      · refine ⟨_, rfl, r, _, rfl, .inl ⟨SqL.of h, fun hp n1 => ⟨Nat.zero_le _, fun D nD => ⟨by show 4 ≤ sizeLine; decide, fun t nt => ?_⟩⟩⟩⟩
        have g := go _ hp D t (Same.up n1) upd_same nD nt
        refine ⟨t, _, rfl, SqT.of upd_same, rfl, ?_⟩
        exact ⟨_, _, rfl, _, _, rfl, _, _, rfl, _, _, rfl, rfl, hp, D, rfl, g⟩
      · refine ⟨_, rfl, r, _, rfl, .inr ⟨SqT.of h, ⟨Nat.zero_le _, fun D nD => ⟨by show 4 ≤ sizeLine; decide, fun t nt => ?_⟩⟩⟩⟩
        have g := go _ r D t (Same.refl _) h nD nt
        refine ⟨t, _, rfl, SqT.of upd_same, rfl, ?_⟩
        exact ⟨_, _, rfl, _, _, rfl, _, _, rfl, _, _, rfl, rfl, r, D, rfl, g⟩
    rintro σ' H1 ⟨hp, D, rfl, s1, e1, eD, nD⟩
    refine ⟨fun σ' H' => ∃ (hp : Addr) (x6 x7 : Option V) (xs : List V), σ' = [some (.ref r), some (.int w), some (.ref hp), some (.ref D), some (.int ((bld n w ks n).2.2.1 : Nat)), some (.int ((bld n w ks n).2.2.2 : Nat)), x6, x7] ∧ Same H H' ∧ H' hp = some (.tup ((bld n w ks n).1.map V.int)) ∧ H' D = some (.lst xs) ∧ PrsAt H' xs (bld n w ks n).2.1, ?_, ?_⟩
    · have hr1 := hrow.same s1
      refine ⟨_, rfl, r, _, rfl, hr1.len, _, rfl, RgOk.of_le (by first | omega | (rw [List.length_map]; omega)) (by first | omega | (rw [List.length_map]; omega)) (by first | omega | (rw [List.length_map]; omega)) (by first | omega | (rw [List.length_map]; omega)), fun c1 nc1 => ?_⟩
      rw [List.length_map, en, rg_pl]
      refine ⟨c1, _, rfl, SqL.of upd_same, fun c nc => ?_⟩
      have s2 : Same H1 (upd (upd H1 c1 (.lst (pl n))) c (.lst (pl n).reverse)) := (Same.up nc1).trans (Same.up nc)
      have two0 : Two H D c [] (pl n).reverse (upd (upd H1 c1 (.lst (pl n))) c (.lst (pl n).reverse)) :=
        ⟨s1.trans s2, s2 _ _ eD, upd_same, nD, s1.free ((Same.up nc1).free nc), ne_of_none ((Same.up nc1) _ _ eD) nc⟩
      have e1' := s2 _ _ e1
      generalize upd (upd H1 c1 (.lst (pl n))) c (.lst (pl n).reverse) = H2 at two0 e1'
      refine ⟨c, rfl, ⟨_, SqL.of two0.w⟩, for_list (K := K) (a := c) (xs := (pl n).reverse) (fun i σ' H' => ∃ (hp : Addr) (x6 x7 : Option V) (xs : List V), σ' = [some (.ref r), some (.int w), some (.ref hp), some (.ref D), some (.int ((bld n w ks i).2.2.1 : Nat)), some (.int ((bld n w ks i).2.2.2 : Nat)), x6, x7] ∧
        Two H D c xs (pl n).reverse H' ∧ H' hp = some (.tup ((bld n w ks i).1.map V.int)) ∧ PrsAt H' xs (bld n w ks i).2.1 ∧ i ≤ n) ⟨hp, none, none, [], rfl, two0, e1', .nil, Nat.zero_le _⟩ (fun i σ' H' _ ⟨_, _, _, _, _, two, _⟩ => SqL.of two.w) ?_ ?_⟩
      · rintro i x σ' H' hx ⟨hp, x6, x7, xs, rfl, two, ehp, hps, _⟩
        obtain ⟨hi, rfl⟩ := rev_pl hx
        have hpn : n - 1 - i < n := by omega
        refine ⟨_, rfl, _, rfl, r, _, rfl, (hrow.same two.s).len, _, rfl, w, n, n - 1 - i, by rw [List.length_map, en]; rfl, hw, hk12, hpn, fun H5 b s5 b0 hb => ?_⟩
        have two5 := two.same s5
        refine ⟨Nat.zero_le _, fun e0 ne0 => ?_⟩
        have s6 : Same H5 (upd H5 e0 (.lst [])) := Same.up ne0
        have he0 : upd H5 e0 (.lst []) e0 = some (.lst (vi [])) := upd_same
        have two6 := two5.same s6
        have hb6 := s6 _ _ hb
        have ehp6 := s6 _ _ (s5 _ _ ehp)
        have hps6 := (hps.same s5).same s6
        generalize upd H5 e0 (.lst []) = H6 at two6 hb6 he0 ehp6 hps6
        refine ⟨_, _, dp_lst _ hb6, dp_lst _ he0, dl_shapedL _, dl_shapedL _, _, rfl, ?_⟩
        rw [dl_emp]
        by_cases h0 : kidL n w (n - 1 - i) = []
        · have eb : bld n w ks (i + 1) = bld n w ks i := by rw [bld, bstep, if_pos h0]
          rw [decide_eq_true h0, eb]
          exact iteF ⟨hp, _, _, xs, rfl, two6, ehp6, hps6, by omega⟩
        · rw [decide_eq_false h0]
          have hl := (bld_len n w ks i).trans en
          have eb : bld n w ks (i + 1) = ((goDown n w 20 (bld n w ks i).1 (n - 1 - i) [n - 1 - i] 0).1, (bld n w ks i).2.1 ++ [(((n - 1 - i : Nat) : Int), ((lastW (goDown n w 20 (bld n w ks i).1 (n - 1 - i) [n - 1 - i] 0).2.1 : Nat) : Int))], (bld n w ks i).2.2.1 + ((goDown n w 20 (bld n w ks i).1 (n - 1 - i) [n - 1 - i] 0).2.1.length - 1), (bld n w ks i).2.2.2 + (goDown n w 20 (bld n w ks i).1 (n - 1 - i) [n - 1 - i] 0).2.2) := by rw [bld, bstep, if_neg h0]
          have hst := bld_stops n w ks i
          generalize bld n w ks i = st at *
          generalize er : goDown n w 20 st.1 (n - 1 - i) [n - 1 - i] 0 = res at *
          have hwne : res.2.1 ≠ [] := er ▸ down_way n w 20 st.1 (n - 1 - i) [n - 1 - i] 0 (by simp)
          have hwl : res.2.1.length ≤ 21 := by
            have := down_ways n w 20 st.1 (n - 1 - i) [n - 1 - i] 0
            rw [er, List.length_singleton] at this
            omega
          refine iteT ⟨_, rfl, _, rfl, _, rfl, hp, w, n - 1 - i, st.1, rfl, hw, .inr ehp6, by omega, by omega, fun H7 z s7 dz => ?_⟩
          rw [hl, er] at dz
          obtain ⟨z1, z2, g1, g2, g3⟩ := dz
          have two7 := two6.same s7
          have hps7 := hps6.same s7
          generalize hxs : ([V.ref z1, V.ref z2, V.int (res.2.2 : Nat)] : List V) = zs at g1
          have a0 : atI zs 0 = some (V.ref z1) := by rw [← hxs]; rfl
          have a1 : atI zs 1 = some (V.ref z2) := by rw [← hxs]; rfl
          have a2 : atI zs 2 = some (V.int (res.2.2 : Nat)) := by rw [← hxs]; rfl
          refine ⟨_, rfl, .inr (.inl ⟨z, _, _, _, rfl, rfl, SqT.of g1, a0, ?_⟩)⟩
          refine ⟨_, rfl, _, rfl, .inr (.inl ⟨z, _, _, _, rfl, rfl, SqT.of g1, a2, ?_⟩)⟩
          refine ⟨_, _, rfl, rfl, _, _, rfl, ?_⟩
          refine ⟨_, rfl, _, rfl, .inr (.inl ⟨z, _, _, _, rfl, rfl, SqT.of g1, a1, ?_⟩)⟩
          refine ⟨z2, _, rfl, .inr (SqT.of g3), _, _, rfl, rfl, _, _, rfl, rfl, ?_⟩
          refine ⟨_, rfl, .inl ⟨rfl, _, SqL.of two7.d⟩, _, rfl, _, rfl, .inr (.inl ⟨z, _, _, _, rfl, rfl, SqT.of g1, a1, ?_⟩)⟩
          refine ⟨_, rfl, .inr (.inl ⟨z2, _, _, _, rfl, rfl, SqT.of g3, (by rw [vi_wz]; exact last_wz hwne), by show 2 ≤ sizeLine; decide, fun t nt => ?_⟩)⟩
          have s8 : Same H7 (upd H7 t (.tup [V.int ((n - 1 - i : Nat) : Int), V.int ((lastW res.2.1 : Nat) : Int)])) := Same.up nt
          have et : upd H7 t (.tup [V.int ((n - 1 - i : Nat) : Int), V.int ((lastW res.2.1 : Nat) : Int)]) t = some (.tup [V.int ((n - 1 - i : Nat) : Int), V.int ((lastW res.2.1 : Nat) : Int)]) := upd_same
          generalize upd H7 t (.tup [V.int ((n - 1 - i : Nat) : Int), V.int ((lastW res.2.1 : Nat) : Int)]) = H8 at s8 et
          have two8 := two7.same s8
          have hps8 := (hps7.same s8).push (x := .ref t) (p := (((n - 1 - i : Nat) : Int), ((lastW res.2.1 : Nat) : Int))) ⟨t, rfl, et⟩
          have xl : xs.length = st.2.1.length := Paired.length hps
          refine ⟨D, _, _, rfl, rfl, two8.d, small1000 (by omega), ?_⟩
          have two9 : Two H D c (xs ++ [.ref t]) (pl n).reverse (upd H8 D (.lst (xs ++ [.ref t]))) := two8.setD
          have hps9 := PrsAt.put (o := .lst (xs ++ [.ref t])) two8.d hps8
          have g29 : upd H8 D (.lst (xs ++ [.ref t])) z1 = some (.tup (res.1.map V.int)) := by
            have g28 := s8 _ _ g2
            rw [upd_ne (ne_of g28 two8.d (by intro y; cases y))]
            exact g28
          rw [eb]
          refine ⟨z1, some (V.int ((n - 1 - i : Nat) : Int)), some (.ref z), xs ++ [.ref t], ?_, two9, g29, hps9, by omega⟩
          have hpos := List.length_pos_iff.mpr hwne
          rw [vi_len]
          show ([some (.ref r), some (.int w), some (.ref z1), some (.ref D), some (V.int ((st.2.2.1 : Int) + (res.2.1.length : Int) - 1)), some (V.int ((st.2.2.2 : Int) + (res.2.2 : Int))), some (V.int ((n - 1 - i : Nat) : Int)), some (.ref z)] : List (Option V)) = _
          rw [show (st.2.2.1 : Int) + (res.2.1.length : Int) - 1 = ((st.2.2.1 + (res.2.1.length - 1) : Nat) : Int) by omega, show (st.2.2.2 : Int) + (res.2.2 : Int) = ((st.2.2.2 + res.2.2 : Nat) : Int) by omega]
      · rintro σ' H' ⟨hp, x6, x7, xs, rfl, two, ehp, hps, _⟩
        rw [List.length_reverse, pl_len] at *
        exact ⟨hp, x6, x7, xs, rfl, two.s, ehp, two.d, hps⟩
    · rintro σ' H' ⟨hp, x6, x7, xs, rfl, s', ehp, hD, hps⟩
      refine ⟨_, rfl, _, rfl, D, _, rfl, .inl ⟨SqL.of hD, fun u nu => ?_⟩⟩
      refine ⟨_, rfl, _, rfl, by show 4 ≤ sizeLine; decide, fun t nt => ?_⟩
      have s2 := (Same.up (o := .tup xs) nu).trans (Same.up (o := .tup [V.ref hp, .ref u, .int ((bld n w ks n).2.2.1 : Nat), .int ((bld n w ks n).2.2.2 : Nat)]) nt)
      exact q _ t (s'.trans s2) ⟨hp, u, xs, upd_same, s2 _ _ ehp, (Same.up nt) _ _ upd_same, hps.same s2⟩
theorem b_lbuilt (T : Tx K mg A) : L2.Binds K A.d__law_built ["row", "wide"] [] := T.F__law_built.binds fun _ _ _ _ _ _ us hl => match us, hl with | [_, _], _ => rfl

end
end Tw

set_option Elab.async false
set_option linter.all false
set_option maxRecDepth 100000
set_option maxHeartbeats 2000000
namespace Tw
open PySem PySem.Spec PyProof.Rows L2
section
variable {P : Program} {w : World} {K : PySem.W.Frag} {mg : Str → Option Value} {base : Heap} {A : Ad}
def spHp : Sp := fun vs H Q _ => ∃ (r w : Nat) (ks : List Int), vs = [.ref r, .int w] ∧ (1 ≤ w ∧ w ≤ 4) ∧ RowIn H r ks ∧ faultL ks w = [] ∧ ∀ H' q, Same H H' → H' q = some (.tup (ks.map V.int)) → Q (.ref q) H'
theorem ok_hp (T : Tx K mg A) : FnOk P w K mg base CX0 8 A.f_heap_of A.d_heap_of ["row", "arms"] spHp := by
  obtain ⟨mf, kf⟩ := kb_fau T
  refine T.F_heap_of.ok sc_heap_of (fun vs H Q E h => ?_) (fun cdv B outer s H vs Q E hr h => ?_)
  · obtain ⟨r, w, ks, rfl, _⟩ := h
    rfl
  · obtain ⟨r, w, ks, rfl, hw, hrow, hf, q⟩ := h
    have nd := sc_heap_of.nd
    refine ⟨_, PSs.nox (pss_cons (ps_set (i := 2) nd rfl (Or.inl rfl) (pe_callN (ok_fau T) (hr.mono (by decide)) (by rfl) T.m_faults T.F_faults.kp kf pass0 (pa_cons (pv 0) pa_nil) (pk_cons (pv 1) pk_nil)))
      (pss_cons (ps_if (pt_truth (pv 2) (fun _ => rfl)) (pss_one ps_never) pss_nil)
      (pss_one (ps_ret (pe_callTy (r := rTupOf K) call_tupK (by rfl) T.g_tuple (by decide +kernel) (pa_cons (pv 0) pa_nil)))))), ?_⟩
    refine ⟨_, rfl, _, rfl, rfl, rfl, r, w, ks, rfl, hw, hrow, fun H1 d s1 d0 hd => ?_⟩
    refine ⟨_, rfl, !(vi (faultL ks w)).isEmpty, .inl ⟨_, SqL.of hd, rfl⟩, ?_⟩
    rw [hf]
    refine iteF ?_
    rcases hrow.1.same s1 with h | h
    · exact ⟨_, rfl, r, _, rfl, .inl ⟨SqL.of h, fun t nt => q _ t (s1.trans (Same.up nt)) upd_same⟩⟩
    · exact ⟨_, rfl, r, _, rfl, .inr ⟨SqT.of h, q _ r s1 h⟩⟩
theorem b_hp (T : Tx K mg A) : L2.Binds K A.d_heap_of ["row", "arms"] [] := T.F_heap_of.binds fun _ _ _ _ _ _ us hl => match us, hl with | [_, _], _ => rfl
theorem sq_cut {H : Hp} {r : Addr} {ks : List Int} {lo hi : Option Int} {zs : List Int} {Q : VK} (K : PySem.W.Frag) (h : Sq H r (ks.map V.int)) (c : cutV (ks.map V.int) lo hi = zs.map V.int ∧ ¬ (HT.sIx (ks.map V.int).length 0 lo = 0 ∧ HT.sIx (ks.map V.int).length (ks.map V.int).length hi = (ks.map V.int).length))
    (q : ∀ p G, Same H G → Sq G p (zs.map V.int) → Q (.ref p) G) : rSlL K (.ref r) lo hi H Q ∨ rSlT K (.ref r) lo hi H Q := by
  rcases h with h | h
  · exact .inl ⟨r, _, rfl, SqL.of h, fun p np => by rw [c.1]; exact q p _ (Same.up np) (.inl upd_same)⟩
  · exact .inr ⟨r, _, rfl, SqT.of h, c.2, fun p np => by rw [c.1]; exact q p _ (Same.up np) (.inr upd_same)⟩
theorem inV_int (i : Int) : ∀ ns : List Int, inV (V.int i) (ns.map V.int) = decide (i ∈ ns)
  | [] => by simp [inV]
  | a :: ns => by
    have ih := inV_int i ns
    unfold inV at ih ⊢
    show (eqV (V.int a) (V.int i) || (ns.map V.int).any fun y => eqV y (V.int i)) = _
    rw [ih]
    by_cases h : i = a
    · subst h
      rw [show eqV (V.int i) (V.int i) = true from decide_eq_true rfl, Bool.true_or, decide_eq_true List.mem_cons_self]
    · rw [show eqV (V.int a) (V.int i) = false from decide_eq_false (fun z => h (by have : a = i := z; exact this.symm)), Bool.false_or]
      exact decide_eq_decide.mpr ⟨fun z => List.mem_cons_of_mem _ z, fun z => (List.mem_cons.mp z).resolve_left h⟩
theorem int_at {ns : List Int} {i : Nat} {x : V} (h : (ns.map V.int)[i]? = some x) : ∃ hi : i < ns.length, x = V.int ns[i] := by
  rw [List.getElem?_map] at h
  by_cases hi : i < ns.length
  · rw [List.getElem?_eq_getElem hi] at h
    exact ⟨hi, (Option.some.inj h).symm⟩
  · rw [List.getElem?_eq_none (by omega)] at h
    cases h
theorem cut_first (l : List V) : cutV l (some 1) none = l.drop 1 := by
  unfold cutV
  rw [HT.sIx_none, show (1 : Int) = ((1 : Nat) : Int) from rfl, HT.sIx_nat]
  cases l with
  | nil => rfl
  | cons a l =>
    rw [Nat.min_eq_left (by simp), List.take_of_length_le (by rw [List.length_drop]; exact Nat.le_refl _)]
/-- t[lo:hi], by what it holds -/
def rSlS (K : PySem.W.Frag) : V → Option Int → Option Int → Hp → VK → Prop := fun x lo hi H Q => ∃ a xs, x = .ref a ∧ SqT K H a xs ∧ ∀ (p : Addr) (H' : Hp), Same H H' → SqT K H' p (cutV xs lo hi) → Q (.ref p) H'
theorem sl_tupS {X : Cx} : SlR X (rSlS X.K) := by
  intro pins s σ H x v vl vu lo hi sl Q I rx hs pl pu h
  obtain ⟨a, xs, ex, hx, q⟩ := h
  refine sl_tupA pins s σ H x v vl vu lo hi sl Q I rx hs pl pu ⟨a, xs, ex, hx, fun y => ?_, fun _ p np => q p _ (Same.up np) (SqT.of upd_same)⟩
  refine q a H (Same.refl _) ?_
  have : cutV xs lo hi = xs := by
    unfold cutV
    rw [y.1, y.2, List.drop_zero, Nat.sub_zero, List.take_length]
  rw [this]
  exact hx
open LamX (ExtN Tabs TabS)
/-! codes: the program's own defs -/
theorem int_flat : ∀ ks : List Int, (ks.map V.int).all flatV = true
  | [] => rfl
  | k :: ks => by
    rw [List.map_cons, List.all_cons, int_flat ks]
    rfl
theorem cut_pre (ks : List Int) {i : Nat} (h : i < ks.length) : cutV (ks.map V.int) none (some (i : Int)) = (ks.take i).map V.int ∧ ¬ (HT.sIx (ks.map V.int).length 0 none = 0 ∧ HT.sIx (ks.map V.int).length (ks.map V.int).length (some (i : Int)) = (ks.map V.int).length) := by
  refine ⟨?_, fun z => ?_⟩
  · unfold cutV
    rw [HT.sIx_none, HT.sIx_nat, List.length_map, Nat.min_eq_left (by omega), List.drop_zero, Nat.sub_zero, List.map_take]
  · have z2 := z.2
    rw [HT.sIx_nat, List.length_map] at z2
    omega
def spCd : Sp := fun vs H Q _ => ∃ (a : Addr) (ks : List Int), vs = [.ref a] ∧ Sq H a (ks.map V.int) ∧ ks.Nodup ∧ ∀ H' : Hp, Same H H' → Q .non H'
theorem not_pre {ks : List Int} (hd : ks.Nodup) {i : Nat} (h : i < ks.length) : decide (ks[i] ∈ ks.take i) = false := decide_eq_false fun z => by
  obtain ⟨j, hj, e⟩ := List.mem_take_iff_getElem.mp z
  have := List.pairwise_iff_getElem.mp (List.nodup_iff_pairwise_ne.mp hd) j i (by omega) h (by omega)
  exact this e
theorem ok_cd (T : Tx K mg A) : FnOk P w K mg base CX0 1 A.f_check_different A.d_check_different ["keys"] spCd := by
  refine T.F_check_different.ok sc_check_different (fun vs H Q E h => ?_) (fun cdv B outer s H vs Q E hr h => ?_)
  · obtain ⟨a, ks, rfl, _⟩ := h
    rfl
  · obtain ⟨a, ks, rfl, ha, hd, q⟩ := h
    have nd := sc_check_different.nd
    refine ⟨_, (pss_one (ps_for PassesOwn.never rfl (pi_enS (by rfl) T.g_enumerate (pa_cons (pv 0) pa_nil)) (pg_tup rfl (pgs_cons (pg_name (i := 1) nd rfl (Or.inl rfl)) (pgs_cons (pg_name (i := 2) nd rfl (Or.inl rfl)) pgs_nil))) (pss_one (ps_if (pt_cmpR (r := L2.rIn K false) op_in_seq (pv 2) (pe_slice (sl_list.or sl_tup) (pv 0) po_none (po_some (pv 1))) (by rfl)) (pss_one ps_never) pss_nil)))), ?_⟩
    rcases ha with ha | ha
    · refine ⟨_, rfl, a, _, rfl, .inl ⟨SqL.of ha, for_it (walk_enum (xs := ks.map V.int)) (fun i σ' H' => (∃ x1 x2 : Option V, σ' = [some (.ref a), x1, x2]) ∧ Same H H') ⟨⟨none, none, rfl⟩, Same.refl _⟩ (fun i σ' H' _ h => SqL.of (h.2 _ _ ha)) ?_ ?_⟩⟩
      · rintro i v σ' H2 H3 hi ⟨⟨x1, x2, rfl⟩, s⟩ ⟨T', x, y, rfl, hT, rfl, e1, e2⟩
        obtain ⟨hi2, rfl⟩ := ints_at e2
        cases e1
        refine ⟨_, _, rfl, SqT.of upd_same, rfl, _, _, rfl, _, _, rfl, rfl, ?_⟩
        have s3 := s.trans (Same.up (o := .tup [V.int (i : Nat), V.int ks[i]]) hT)
        generalize upd H2 T' (.tup [V.int (i : Nat), V.int ks[i]]) = G at s3
        refine ⟨_, rfl, _, rfl, _, rfl, _, rfl, sq_cut K (.inl (s3 _ _ ha)) (cut_pre ks hi2) fun p G2 s4 hp => ⟨p, _, rfl, hp.len, rfl, int_flat _, ?_⟩⟩
        rw [if_neg Bool.false_ne_true, inV_int, not_pre hd hi2]
        exact ⟨_, rfl, iteF ⟨⟨_, _, rfl⟩, s3.trans s4⟩⟩
      · rintro σ' H2 ⟨⟨x1, x2, rfl⟩, s⟩
        exact q _ s
    · refine ⟨_, rfl, a, _, rfl, .inr ⟨SqT.of ha, for_it (walk_enumT (xs := ks.map V.int)) (fun i σ' H' => (∃ x1 x2 : Option V, σ' = [some (.ref a), x1, x2]) ∧ Same H H') ⟨⟨none, none, rfl⟩, Same.refl _⟩ (fun i σ' H' _ h => SqT.of (h.2 _ _ ha)) ?_ ?_⟩⟩
      · rintro i v σ' H2 H3 hi ⟨⟨x1, x2, rfl⟩, s⟩ ⟨T', x, y, rfl, hT, rfl, e1, e2⟩
        obtain ⟨hi2, rfl⟩ := ints_at e2
        cases e1
        refine ⟨_, _, rfl, SqT.of upd_same, rfl, _, _, rfl, _, _, rfl, rfl, ?_⟩
        have s3 := s.trans (Same.up (o := .tup [V.int (i : Nat), V.int ks[i]]) hT)
        generalize upd H2 T' (.tup [V.int (i : Nat), V.int ks[i]]) = G at s3
        refine ⟨_, rfl, _, rfl, _, rfl, _, rfl, sq_cut K (.inr (s3 _ _ ha)) (cut_pre ks hi2) fun p G2 s4 hp => ⟨p, _, rfl, hp.len, rfl, int_flat _, ?_⟩⟩
        rw [if_neg Bool.false_ne_true, inV_int, not_pre hd hi2]
        exact ⟨_, rfl, iteF ⟨⟨_, _, rfl⟩, s3.trans s4⟩⟩
      · rintro σ' H2 ⟨⟨x1, x2, rfl⟩, s⟩
        exact q _ s
theorem b_cd (T : Tx K mg A) : L2.Binds K A.d_check_different ["keys"] [] := T.F_check_different.binds fun _ _ _ _ _ _ us hl => match us, hl with | [_], _ => rfl
def spDh : Sp := fun vs H Q _ => ∃ (r w : Nat) (ks : List Int), vs = [.ref r, .int w] ∧ (1 ≤ w ∧ w ≤ 4) ∧ RowIn H r ks ∧ faultL ks w = [] ∧ ks.Nodup ∧ ∀ H' q, Same H H' → H' q = some (.tup (ks.map V.int)) → Q (.ref q) H'
theorem ok_dh (T : Tx K mg A) : FnOk P w K mg base CX0 9 A.f_different_heap_of A.d_different_heap_of ["row", "arms"] spDh := by
  refine T.F_different_heap_of.ok sc_different_heap_of (fun vs H Q E h => ?_) (fun cdv B outer s H vs Q E hr h => ?_)
  · obtain ⟨r, w, ks, rfl, _⟩ := h
    rfl
  · obtain ⟨r, w, ks, rfl, hw, hrow, hf, hd, q⟩ := h
    have nd := sc_different_heap_of.nd
    refine ⟨_, (pss_cons (ps_set (i := 2) nd rfl (Or.inl rfl) (pe_call (ok_hp T) (hr.mono (by decide)) (by rfl) T.m_heap_of T.F_heap_of.kp (b_hp T) .nil pass0 (pa_cons (pv 0) (pa_cons (pv 1) pa_nil))))
      (pss_cons (ps_expr (pe_call (ok_cd T) (hr.mono (by decide)) (by rfl) T.m_check_different T.F_check_different.kp (b_cd T) .nil pass0 (pa_cons (pv 2) pa_nil)))
      (pss_one (ps_ret (pv 2))))), ?_⟩
    refine ⟨_, rfl, _, rfl, r, w, ks, rfl, hw, hrow, hf, fun H1 t s1 e1 => ?_⟩
    exact ⟨_, rfl, t, ks, rfl, .inr e1, hd, fun H2 s2 => ⟨_, rfl, q H2 t (s1.trans s2) (s2 _ _ e1)⟩⟩
theorem b_dh (T : Tx K mg A) : L2.Binds K A.d_different_heap_of ["row", "arms"] [] := T.F_different_heap_of.binds fun _ _ _ _ _ _ us hl => match us, hl with | [_, _], _ => rfl

end
end Tw

set_option Elab.async false
set_option linter.all false
set_option maxRecDepth 100000
set_option maxHeartbeats 2000000
namespace Tw
open PySem PySem.Spec PyProof.Rows L2
section
variable {P : Program} {w : World} {K : PySem.W.Frag} {mg : Str → Option Value} {base : Heap} {A : Ad}
theorem SqT.sm {K : PySem.W.Frag} {H H' : Hp} {a : Addr} {xs : List V} (s : Same H H') (h : SqT K H a xs) : SqT K H' a xs := by
  rcases h with (h | ⟨o, h⟩) | h
  · exact .inl (.inl (s _ _ h))
  · exact .inl (.inr ⟨o, s _ _ h⟩)
  · exact .inr h
open LamX (ExtN Tabs TabS)
/-! rows behind a way, behind the stops -/
theorem cut_from (xs : List V) (k : Nat) : cutV xs (some (k : Int)) none = xs.drop k := by
  unfold cutV
  rw [HT.sIx_none, HT.sIx_nat]
  rcases Nat.le_total k xs.length with h | h
  · rw [Nat.min_eq_left h, List.take_of_length_le (by rw [List.length_drop]; exact Nat.le_refl _)]
  · rw [Nat.min_eq_right h, List.drop_length, List.drop_eq_nil_of_le h, List.take_nil]
theorem down_get {n w : Nat} (hw : 1 ≤ w) : ∀ (l : List Nat) (p : Nat), p < n → Down n w p l → ∀ j (h : j < l.length), (l[j] - 1) / w = (p :: l).getD j 0 ∧ (p :: l).getD j 0 < n ∧ p < l[j] ∧ l[j] < n
  | [], _, _, _, j, h => absurd h (by simp)
  | b :: l, p, hp, ⟨hb, hd⟩, 0, h => by
    obtain ⟨b1, b2⟩ := kid_in hw hb
    exact ⟨(mem_kid.mp hb).2.2, hp, b1, b2⟩
  | b :: l, p, hp, ⟨hb, hd⟩, j + 1, h => by
    obtain ⟨b1, b2⟩ := kid_in hw hb
    have hj : j < l.length := by simpa using h
    obtain ⟨h1, h2, h3, h4⟩ := down_get hw l b b2 hd j hj
    exact ⟨h1, h2, Nat.lt_trans b1 h3, h4⟩
theorem SqT.put {H : Hp} {a D : Addr} {xs zs : List V} {o : HO} (hD : H D = some (.lst zs)) (h : SqT K H a xs) : SqT K (upd H D o) a xs := by
  rcases h with (h | ⟨o, h⟩) | h
  · exact .inl (.inl (by rw [upd_ne (ne_of h hD (by intro q; cases q))]; exact h))
  · exact .inl (.inr ⟨o, by rw [upd_ne (ne_of h hD (by intro q; cases q))]; exact h⟩)
  · exact .inr h
def rbL (n w : Nat) (R : List Int) (p : Nat) (l : List Nat) (j : Nat) : List Int := (List.range n).map fun q => if q = p then keyAt R (endOf p l) else if q ∈ l.take j then keyAt R ((q - 1) / w) else keyAt R q
theorem rb_len (n w : Nat) (R : List Int) (p : Nat) (l : List Nat) (j : Nat) : (rbL n w R p l j).length = n := by
  unfold rbL
  rw [List.length_map, List.length_range]
theorem el_key {l : List Int} {i : Nat} (h : i < l.length) : l[i] = keyAt l i := by
  unfold keyAt
  rw [List.getD_eq_getElem?_getD, List.getElem?_eq_getElem h]
  rfl
theorem ext_key {a b : List Int} (hl : a.length = b.length) (h : ∀ q, q < a.length → keyAt a q = keyAt b q) : a = b :=
  List.ext_getElem hl fun q h1 h2 => by rw [el_key h1, el_key h2, h q h1]
theorem rb_at {n w : Nat} {R : List Int} {p : Nat} {l : List Nat} {j q : Nat} (hq : q < n) : keyAt (rbL n w R p l j) q = if q = p then keyAt R (endOf p l) else if q ∈ l.take j then keyAt R ((q - 1) / w) else keyAt R q := by
  have e : (rbL n w R p l j)[q]? = some (if q = p then keyAt R (endOf p l) else if q ∈ l.take j then keyAt R ((q - 1) / w) else keyAt R q) := by
    unfold rbL
    rw [List.getElem?_map, List.getElem?_range hq]
    rfl
  show (rbL n w R p l j).getD q 0 = _
  rw [List.getD_eq_getElem?_getD, e]
  rfl
theorem rb_zero {n w : Nat} {R : List Int} (hl : R.length = n) {p : Nat} (hp : p < n) (l : List Nat) : R.set p (keyAt R (endOf p l)) = rbL n w R p l 0 := by
  refine ext_key (by rw [List.length_set, rb_len, hl]) fun q h1 => ?_
  rw [List.length_set, hl] at h1
  rw [keyAt_set (by omega), rb_at h1, List.take_zero, if_neg (show ¬ q ∈ [] by simp)]
theorem rb_succ {n w : Nat} (hw : 1 ≤ w) {R : List Int} {p : Nat} (hp : p < n) {l : List Nat} (hd : Down n w p l) {j : Nat} (h : j < l.length) : (rbL n w R p l j).set l[j] (keyAt R ((p :: l).getD j 0)) = rbL n w R p l (j + 1) := by
  obtain ⟨g1, g2, g3, g4⟩ := down_get hw l p hp hd j h
  refine ext_key (by rw [List.length_set, rb_len, rb_len]) fun q h1 => ?_
  rw [List.length_set, rb_len] at h1
  rw [keyAt_set (by rw [rb_len]; exact g4), rb_at h1, rb_at h1, ← List.take_append_getElem h]
  by_cases e : q = l[j]
  · subst e
    rw [if_pos rfl, if_neg (by omega), if_pos (List.mem_append_right _ (List.mem_singleton.mpr rfl)), g1]
  · rw [if_neg e]
    by_cases e2 : q = p
    · rw [if_pos e2, if_pos e2]
    · rw [if_neg e2, if_neg e2]
      by_cases e3 : q ∈ l.take j
      · rw [if_pos e3, if_pos (List.mem_append_left _ e3)]
      · rw [if_neg e3, if_neg fun z => (List.mem_append.mp z).elim e3 fun y => e (List.mem_singleton.mp y)]
theorem rb_end {n w : Nat} (hw : 1 ≤ w) {R : List Int} (hl : R.length = n) {p : Nat} (hp : p < n) {l : List Nat} (hd : Down n w p l) : rbL n w R p l l.length = undoS R (p :: l) := by
  refine ext_key (by rw [undo_len, rb_len, hl]) fun q h1 => ?_
  rw [rb_len] at h1
  rw [undo_at hw hl l p hp hd, rb_at h1, List.take_length]
theorem vi_getD {l : List Nat} {p : Nat} (h : p < l.length) : (vi l)[p]? = some (V.int (l.getD p 0 : Nat)) := by
  unfold vi
  rw [List.getElem?_map, List.getElem?_eq_getElem h, List.getD_eq_getElem?_getD, List.getElem?_eq_getElem h]
  rfl
theorem vi_cons (p : Nat) (l : List Nat) : vi (p :: l) = V.int (p : Nat) :: vi l := rfl
theorem vi_last (p : Nat) (l : List Nat) : atI (vi (p :: l)) (-1) = some (V.int ((endOf p l : Nat) : Int)) := by
  rw [vi_wz]
  have := last_wz (l := [p] ++ l) (by simp)
  rw [last_end] at this
  exact this
theorem vi_first (p : Nat) (l : List Nat) : atI (vi (p :: l)) 0 = some (V.int ((p : Nat) : Int)) := by
  show atI (vi (p :: l)) ((0 : Nat) : Int) = _
  exact atI_nat rfl
def spRb (K : PySem.W.Frag) : Sp := fun vs H Q _ => ∃ (a b p n w : Nat) (R : List Int) (l : List Nat), vs = [.ref a, .ref b] ∧ H a = some (.tup (R.map V.int)) ∧ SqT K H b (vi (p :: l)) ∧ R.length = n ∧ n ≤ 12 ∧ 1 ≤ w ∧ p < n ∧ Down n w p l ∧
  ∀ (H' : Hp) (t : Addr), Same H H' → H' t = some (.tup ((undoS R (p :: l)).map V.int)) → Q (.ref t) H'
theorem ok_rb (T : Tx K mg A) : FnOk P w K mg base CX0 1 A.f_row_before A.d_row_before ["row", "way"] (spRb K) := by
  refine T.F_row_before.ok sc_row_before (fun vs H Q E h => ?_) (fun cdv B outer s H vs Q E hr h => ?_)
  · obtain ⟨a, b, p, n, w, R, l, rfl, _⟩ := h
    rfl
  · obtain ⟨a, b, p, n, w, R, l, rfl, ha, hb, hl, hn, hw, hp, hd, q⟩ := h
    have nd := sc_row_before.nd
    obtain ⟨_, _, he⟩ := down_lt hw l p hp hd
    refine ⟨_, PSs.nox (C8.pss_cut (ps_set (i := 2) nd rfl (Or.inl rfl) (pe_callTy call_list_of (by rfl) T.g_list (by decide +kernel) (pa_cons (pv 0) pa_nil)))
      (C8.pss_cut (ps_asg (pe_ix (r := rIxT K) ix_tup (pv 0) (pe_ix (r := rIxT K) ix_tup (pv 1) (pe_un un_neg pe_int) (fun _ _ => rfl)) (fun _ _ => rfl)) (pg_sub (pv 2) (pe_ix (r := rIxT K) ix_tup (pv 1) pe_int (fun _ _ => rfl)) set_list))
      (C8.pss_cut (ps_for PassesOwn.never rfl (RZ.pi_zipA (by rfl) T.g_zip (pa_cons (pv 1) (pa_cons (pe_slice (r := rSlS K) sl_tupS (pv 1) (po_some pe_int) po_none) pa_nil))) (pg_tup rfl (pgs_cons (pg_name (i := 3) nd rfl (Or.inl rfl)) (pgs_cons (pg_name (i := 4) nd rfl (Or.inl rfl)) pgs_nil))) (pss_one (ps_asg (pe_ix (r := rIxT K) ix_tup (pv 0) (pv 3) (fun _ _ => rfl)) (pg_sub (pv 2) (pv 4) set_list))))
      (pss_one (ps_ret (pe_callTy call_tuple_of (by rfl) T.g_tuple (by decide +kernel) (pa_cons (pv 2) pa_nil))))))), ?_⟩
    refine ⟨fun σ' H' => ∃ D : Addr, σ' = [some (.ref a), some (.ref b), some (.ref D), none, none] ∧ Acc H D (R.map V.int) H', ?_, ?_⟩
    · exact ⟨_, rfl, a, _, rfl, .inr (SqT.of ha), fun D nD => ⟨D, rfl, Same.up nD, nD, upd_same⟩⟩
    rintro σ' H1 ⟨D, rfl, ac1⟩
    refine ⟨fun σ' H' => σ' = [some (.ref a), some (.ref b), some (.ref D), none, none] ∧ Acc H D ((rbL n w R p l 0).map V.int) H', ?_, ?_⟩
    · refine ⟨_, rfl, _, rfl, _, rfl, b, _, _, _, rfl, rfl, SqT.sm ac1.s hb, vi_last p l, a, _, _, _, rfl, rfl, SqT.of (ac1.s _ _ ha), key_at (by omega), ?_⟩
      refine ⟨_, rfl, _, rfl, b, _, _, _, rfl, rfl, SqT.sm ac1.s hb, vi_first p l, D, _, _, p, rfl, rfl, ac1.a, ixN_nat (by rw [List.length_map]; omega), rfl, ?_⟩
      rw [set_int, rb_zero hl hp]
      exact ac1.push
    rintro σ' H2 ⟨rfl, ac2⟩
    refine ⟨fun σ' H' => (∃ x3 x4 : Option V, σ' = [some (.ref a), some (.ref b), some (.ref D), x3, x4]) ∧ Acc H D ((undoS R (p :: l)).map V.int) H', ?_, ?_⟩
    · refine ⟨_, rfl, _, rfl, _, rfl, b, _, rfl, SqT.sm ac2.s hb, fun u H3 s3 eu => ?_⟩
      have ac3 := ac2.same s3
      rw [show (1 : Int) = ((1 : Nat) : Int) from rfl, cut_from, vi_cons, List.drop_one, List.tail_cons] at eu
      have hb3 := SqT.sm ac3.s hb
      refine ⟨b, u, _, _, rfl, .inr ⟨hb3, eu, for_it (walk_zipT (n := l.length) (by rw [List.length_cons, vi_len]; omega)) (fun j σ' H' => (∃ x3 x4 : Option V, σ' = [some (.ref a), some (.ref b), some (.ref D), x3, x4]) ∧ Acc H D ((rbL n w R p l j).map V.int) H' ∧ SqT K H' b (V.int (p : Nat) :: vi l) ∧ SqT K H' u (vi l)) ⟨⟨none, none, rfl⟩, ac3, hb3, eu⟩ (fun j σ' H' _ h => ⟨h.2.2.1, h.2.2.2⟩) ?_ ?_⟩⟩
      · rintro j v σ' H4 H5 hj ⟨⟨x3, x4, rfl⟩, ac, sb, su⟩ ⟨T', x, y, rfl, hT, rfl, e1, e2⟩
        have e1 : (vi (p :: l))[j]? = some x := e1
        rw [vi_getD (by rw [List.length_cons]; omega)] at e1
        have e2 : (vi l)[j]? = some y := e2
        rw [vi_getD hj] at e2
        cases e1
        cases e2
        have el : l.getD j 0 = l[j] := by rw [List.getD_eq_getElem?_getD, List.getElem?_eq_getElem hj]; rfl
        rw [el]
        obtain ⟨g1, g2, g3, g4⟩ := down_get hw l p hp hd j hj
        refine ⟨_, _, rfl, SqT.of upd_same, rfl, _, _, rfl, _, _, rfl, rfl, ?_⟩
        have s5 := Same.up (o := .tup [V.int ((p :: l).getD j 0 : Nat), V.int (l[j] : Nat)]) hT
        have ac5 := ac.same s5
        have sb5 := SqT.sm s5 sb
        have su5 := SqT.sm s5 su
        generalize upd H4 T' (.tup [V.int ((p :: l).getD j 0 : Nat), V.int (l[j] : Nat)]) = G at ac5 sb5 su5
        refine ⟨_, rfl, _, rfl, a, _, _, _, rfl, rfl, SqT.of (ac5.s _ _ ha), key_at (by omega), _, rfl, _, rfl, D, _, _, l[j], rfl, rfl, ac5.a, ixN_nat (by rw [List.length_map, rb_len]; exact g4), ?_⟩
        rw [set_int, rb_succ hw hp hd hj]
        exact ⟨⟨_, _, rfl⟩, ac5.push, SqT.put ac5.a sb5, SqT.put ac5.a su5⟩
      · rintro σ' H4 ⟨⟨x3, x4, rfl⟩, ac, _, _⟩
        rw [rb_end hw hl hp hd] at ac
        exact ⟨⟨_, _, rfl⟩, ac⟩
    rintro σ' H3 ⟨⟨x3, x4, rfl⟩, ac3⟩
    exact ⟨_, rfl, D, _, rfl, .inl ⟨SqL.of ac3.a, fun t nt => q _ t (ac3.s.trans (Same.up nt)) upd_same⟩⟩
theorem b_rb (T : Tx K mg A) : L2.Binds K A.d_row_before ["row", "way"] [] := T.F_row_before.binds fun _ _ _ _ _ _ us hl => match us, hl with | [_, _], _ => rfl
def spWd (K : PySem.W.Frag) (C : Addr) : Sp := fun vs H Q _ => ∃ (x n w p e : Nat), vs = [.ref x, .int p, .int e] ∧ TreeAt C H x n w ∧ p < n ∧ e < n ∧ ∀ (H' : Hp) (q : Addr), Same H H' → SqT K H' q (vi (pathL w p e)) → Q (.ref q) H'
theorem ok_wd (T : Tx K mg A) : FnOk P w K mg base CX0 7 A.f_way_down A.d_way_down ["tree", "place", "stop"] (spWd K A.C) := by
  refine T.F_way_down.ok sc_way_down (fun vs H Q E h => ?_) (fun cdv B outer s H vs Q E hr h => ?_)
  · obtain ⟨x, n, w, p, e, rfl, _⟩ := h
    rfl
  · obtain ⟨x, n, w, p, e, rfl, t, hp, he, q⟩ := h
    obtain ⟨dx, l, h1, h2⟩ := id t.ob
    have noW : (tf n w l).lookup ("way_to" : Str) = none := tf_no _ _ _ (by decide +kernel) (by decide +kernel) (by decide +kernel)
    have noD : (tf n w l).lookup ("depth" : Str) = none := tf_no _ _ _ (by decide +kernel) (by decide +kernel) (by decide +kernel)
    refine ⟨_, (pss_one (ps_ret (pe_slice (r := rSlS K) sl_tupS (pe_meth (pv 0) T.cT T.M_t_way_to (ok_way T) (hr.mono (by decide)) (b_way T) .nil pass0 (pa_cons (pv 2) pa_nil)) (po_some (pe_meth (pv 0) T.cT T.M_t_depth (ok_dep T) (hr.mono (by decide)) (b_dep T) .nil pass0 (pa_cons (pv 1) pa_nil))) po_none))), ?_⟩
    refine ⟨_, rfl, x, dx, _, rfl, h1, noW, _, rfl, x, n, w, e, rfl, t, he, fun H1 z s1 n1 e1 => ?_⟩
    refine ⟨_, rfl, x, dx, _, rfl, s1 _ _ h1, noD, _, rfl, x, n, w, p, rfl, t.same s1, hp, fun H2 s2 => ?_⟩
    refine ⟨_, rfl, z, _, rfl, SqT.of (s2 _ _ e1), fun u H3 s3 eu => q _ u (s1.trans (s2.trans s3)) ?_⟩
    have ew : ((wayL w p).length : Int) - 1 = (((wayL w p).length - 1 : Nat) : Int) := by
      have hw := t.hw
      have := t.hn
      obtain ⟨y, ey⟩ := way_end w p hw (by omega)
      rw [ey, List.length_append, List.length_singleton]
      omega
    rw [ew, cut_from] at eu
    unfold pathL
    have : vi ((wayL w e).drop ((wayL w p).length - 1)) = (vi (wayL w e)).drop ((wayL w p).length - 1) := by unfold vi; rw [List.map_drop]
    rw [this]
    exact eu
theorem b_wd (T : Tx K mg A) : L2.Binds K A.d_way_down ["tree", "place", "stop"] [] := T.F_way_down.binds fun _ _ _ _ _ _ us hl => match us, hl with | [_, _, _], _ => rfl
def StopP (n w : Nat) (z : Int × Int) : Prop := ∃ p e : Nat, z = ((p : Int), (e : Int)) ∧ p < n ∧ e < n ∧ p ∈ wayL w e
theorem undoP_len (w : Nat) (R : List Int) (z : Int × Int) : (undoP w R z).length = R.length := by
  unfold undoP
  rw [undo_len]
theorem fold_len (w : Nat) (R : List Int) : ∀ ps : List (Int × Int), (ps.foldr (fun x r => undoP w r x) R).length = R.length
  | [] => rfl
  | z :: ps => by rw [List.foldr_cons, undoP_len, fold_len w R ps]
theorem SqV.same {H H' : Hp} {a : Addr} {xs : List V} (h : SqV H a xs) (s : Same H H') : SqV H' a xs := h.elim (fun e => .inl (s _ _ e)) fun e => .inr (s _ _ e)
theorem SqV.len {H : Hp} {a : Addr} {xs : List V} (h : SqV H a xs) : SqL K H a xs ∨ SqT K H a xs := h.elim (fun e => .inl (SqL.of e)) fun e => .inr (SqT.of e)
def spRw (C : Addr) : Sp := fun vs H Q _ => ∃ (a b x n w : Nat) (ms : List Int) (xs : List V) (ps : List (Int × Int)), vs = [.ref a, .ref b, .ref x] ∧ H a = some (.tup (ms.map V.int)) ∧ SqV H b xs ∧ PrsAt H xs ps ∧ TreeAt C H x n w ∧ ms.length = n ∧ (∀ z ∈ ps, StopP n w z) ∧ ps.length ≤ 12 ∧
  ∀ (H' : Hp) (t : Addr), Same H H' → H' t = some (.tup ((ps.foldr (fun x r => undoP w r x) ms).map V.int)) → Q (.ref t) H'
theorem ok_rw (T : Tx K mg A) : FnOk P w K mg base CX0 8 A.f_row_with A.d_row_with ["heap", "stops", "tree"] (spRw A.C) := by
  refine T.F_row_with.ok sc_row_with (fun vs H Q E h => ?_) (fun cdv B outer s H vs Q E hr h => ?_)
  · obtain ⟨a, b, x, n, w, ms, xs, ps, rfl, _⟩ := h
    rfl
  · obtain ⟨a, b, x, n, w, ms, xs, ps, rfl, ha, hb, hps, t, hl, hst, hpl, q⟩ := h
    have nd := sc_row_with.nd
    have hn12 := t.hn
    have hw := t.hw
    have xl : xs.length = ps.length := Paired.length hps
    refine ⟨_, PSs.nox (C8.pss_cut (ps_set (i := 3) nd rfl (Or.inl rfl) (pe_callTy call_tuple_of (by rfl) T.g_tuple (by decide +kernel) (pa_cons (pv 0) pa_nil)))
      (C8.pss_cut (ps_for PassesOwn.never rfl (pi_reversed (by rfl) T.g_reversed (pa_cons (pe_callTy call_list_of (by rfl) T.g_list (by decide +kernel) (pa_cons (pv 1) pa_nil)) pa_nil)) (pg_tup rfl (pgs_cons (pg_name (i := 4) nd rfl (Or.inl rfl)) (pgs_cons (pg_name (i := 5) nd rfl (Or.inl rfl)) pgs_nil))) (pss_one (ps_set (i := 3) nd rfl (Or.inl rfl) (pe_call (ok_rb T) (hr.mono (by decide)) (by rfl) T.m_row_before T.F_row_before.kp (b_rb T) .nil pass0 (pa_cons (pv 3) (pa_cons (pe_call (ok_wd T) (hr.mono (by decide)) (by rfl) T.m_way_down T.F_way_down.kp (b_wd T) .nil pass0 (pa_cons (pv 2) (pa_cons (pv 4) (pa_cons (pv 5) pa_nil)))) pa_nil))))))
      (pss_one (ps_ret (pv 3))))), ?_⟩
    refine ⟨fun σ' H' => σ' = [some (.ref a), some (.ref b), some (.ref x), some (.ref a), none, none] ∧ Same H H', ?_, ?_⟩
    · exact ⟨_, rfl, a, _, rfl, .inr ⟨SqT.of ha, rfl, Same.refl _⟩⟩
    rintro σ' H1 ⟨rfl, s1⟩
    refine ⟨fun σ' H' => ∃ (r : Addr) (x4 x5 : Option V), σ' = [some (.ref a), some (.ref b), some (.ref x), some (.ref r), x4, x5] ∧ Same H H' ∧ H' r = some (.tup ((ps.foldr (fun x r => undoP w r x) ms).map V.int)), ?_, ?_⟩
    · refine ⟨_, rfl, b, _, rfl, (hb.same s1).len, fun D nD => ?_⟩
      have s2 := s1.trans (Same.up (o := .lst xs) nD)
      have eD : upd H1 D (.lst xs) D = some (.lst xs) := upd_same
      generalize upd H1 D (.lst xs) = H2 at s2 eD
      refine ⟨D, _, rfl, SqL.of eD, RT.for_Itv (fun i σ' H' => ∃ (r : Addr) (x4 x5 : Option V), σ' = [some (.ref a), some (.ref b), some (.ref x), some (.ref r), x4, x5] ∧ Same H2 H' ∧ H' r = some (.tup (((ps.drop (ps.length - i)).foldr (fun x r => undoP w r x) ms).map V.int)) ∧ i ≤ ps.length)
        ⟨a, none, none, rfl, Same.refl _, by rw [Nat.sub_zero, List.drop_length]; exact s2 _ _ ha, Nat.zero_le _⟩ (fun i σ' H' ⟨_, _, _, _, h, _⟩ => SqL.of (h _ _ eD)) ?_ ?_⟩
      · rintro i y σ' H3 hi hx ⟨r, x4, x5, rfl, s3, er, hi2⟩
        rw [xl] at hi hx
        obtain ⟨z, hz, hpr⟩ := prs_get (hps.same (s2.trans s3)) hx
        obtain ⟨u, rfl, eu⟩ := hpr
        have hj : ps.length - 1 - i < ps.length := by omega
        have ez : z = ps[ps.length - 1 - i] := by rw [List.getElem?_eq_getElem hj] at hz; exact (Option.some.inj hz).symm
        obtain ⟨p, e, epe, hp, he, hmem⟩ := hst z (ez ▸ List.getElem_mem hj)
        have ed : ps.drop (ps.length - (i + 1)) = z :: ps.drop (ps.length - i) := by
          rw [show ps.length - (i + 1) = ps.length - 1 - i by omega, List.drop_eq_getElem_cons hj, ← ez, show ps.length - 1 - i + 1 = ps.length - i by omega]
        rw [ed, List.foldr_cons]
        have hrl := fold_len w ms (ps.drop (ps.length - i))
        generalize (ps.drop (ps.length - i)).foldr (fun x r => undoP w r x) ms = R at er hrl ⊢
        subst epe
        obtain ⟨l, d1, d2⟩ := of_sub hw hn12 e e p (Nat.le_refl _) he hmem
        have epth := path_down hw hn12 hp d1
        rw [d2] at epth
        refine ⟨_, _, rfl, SqT.of eu, rfl, _, _, rfl, _, _, rfl, rfl, ?_⟩
        refine ⟨_, rfl, _, rfl, _, rfl, _, rfl, x, n, w, p, e, rfl, t.same (s2.trans s3), hp, he, fun H4 v s4 ev => ?_⟩
        rw [epth] at ev
        refine ⟨r, v, p, n, w, R, l, rfl, s4 _ _ er, ev, by rw [hrl, hl], hn12, hw.1, hp, d1, fun H5 t5 s5 e5 => ?_⟩
        refine ⟨t5, _, _, rfl, s3.trans (s4.trans s5), ?_, by omega⟩
        unfold undoP
        rw [Int.toNat_natCast, Int.toNat_natCast, epth]
        exact e5
      · rintro σ' H3 ⟨r, x4, x5, rfl, s3, er, _⟩
        rw [xl, Nat.sub_self, List.drop_zero] at er
        exact ⟨r, _, _, rfl, s2.trans s3, er⟩
    · rintro σ' H2 ⟨r, x4, x5, rfl, s2, er⟩
      exact ⟨_, rfl, q H2 r s2 er⟩
theorem b_rw (T : Tx K mg A) : L2.Binds K A.d_row_with ["heap", "stops", "tree"] [] := T.F_row_with.binds fun _ _ _ _ _ _ us hl => match us, hl with | [_, _, _], _ => rfl

end
end Tw

set_option Elab.async false
set_option linter.all false
set_option maxRecDepth 100000
set_option maxHeartbeats 2000000
namespace Tw
open PySem PySem.Spec PyProof.Rows L2
section
variable {P : Program} {w : World} {K : PySem.W.Frag} {mg : Str → Option Value} {base : Heap} {A : Ad}
open LamX (ExtN Tabs TabS)
/-! the places that stop; decode and code -/
/-- truth, as a comprehension's test -/
def tTru (K : PySem.W.Frag) (ta : TE) : L2.TT := fun σ H Q => ta σ H fun x H' => ∃ k, TruV K x H' k ∧ Q k H'
theorem pt_tru {X : Cx} {a : Expr} {ta : TE} (h : PE X a ta) (hw : ∀ (whole : Sem Value), PySem.isTrue a X.env whole = do
          let v ← whole
          standAt a.pos
          holding [v] (truthy v)) : PT X a (tTru X.K ta) := pt_truth h hw
theorem pt_truK {X : Cx} {K : PySem.W.Frag} {a : Expr} {ta : TE} (hK : X.K = K) (h : PE X a ta) (hw : ∀ (whole : Sem Value), PySem.isTrue a X.env whole = do
          let v ← whole
          standAt a.pos
          holding [v] (truthy v)) : PT X a (tTru K ta) := hK ▸ pt_tru h hw
def plS (n w : Nat) : Nat → List Nat
  | 0 => []
  | i + 1 => if kidL n w (n - 1 - i) = [] then plS n w i else plS n w i ++ [n - 1 - i]
theorem plS_succ (n w i : Nat) : plS n w (i + 1) = if kidL n w (n - 1 - i) = [] then plS n w i else plS n w i ++ [n - 1 - i] := rfl
theorem plS_len (n w : Nat) : ∀ i, (plS n w i).length ≤ i
  | 0 => Nat.le_refl _
  | i + 1 => by
    have := plS_len n w i
    unfold plS
    split
    · omega
    · rw [List.length_append, List.length_singleton]
      omega
theorem plS_mem {n w : Nat} : ∀ i, i ≤ n → ∀ p ∈ plS n w i, p < n ∧ kidL n w p ≠ []
  | 0, _, p, h => nomatch h
  | i + 1, hi, p, h => by
    unfold plS at h
    split at h
    · exact plS_mem i (by omega) p h
    · rename_i h0
      rcases List.mem_append.mp h with h | h
      · exact plS_mem i (by omega) p h
      · rw [List.mem_singleton.mp h]
        exact ⟨by omega, h0⟩
theorem stp_pl (n w : Nat) (f : Nat → Nat) : ∀ i, stpL n w f i = (plS n w i).map fun (p : Nat) => ((p : Int), ((f p : Nat) : Int))
  | 0 => rfl
  | i + 1 => by
    rw [stp_succ, stp_pl n w f i, plS_succ]
    split
    · rfl
    · rw [List.map_append]
      rfl
def spPst (C : Addr) : Sp := fun vs H Q _ => ∃ (x n w : Nat), vs = [.ref x] ∧ TreeAt C H x n w ∧ ∀ (H' : Hp) (q : Addr), Same H H' → H q = none → H' q = some (.lst (vi (plS n w n))) → Q (.ref q) H'
theorem ok_pst (T : Tx K mg A) : FnOk P w K mg base CX0 8 A.f_places_that_stop A.d_places_that_stop ["tree"] (spPst A.C) := by
  refine T.F_places_that_stop.ok sc_places_that_stop (fun vs H Q E h => ?_) (fun cdv B outer s H vs Q E hr h => ?_)
  · obtain ⟨x, n, w, rfl, _⟩ := h
    rfl
  · obtain ⟨x, n, w, rfl, t, q⟩ := h
    have nd := sc_places_that_stop.nd
    obtain ⟨dx, l, h1, h2⟩ := id t.ob
    have hw := t.hw
    have hn := t.hn
    refine ⟨_, (pss_one (ps_ret (pe_lc (own := [("place", 1)]) (g := gName 1) rfl nd (pi_reversed (by rfl) T.g_reversed (pa_cons (pe_callTy (call_listO T.D_t___iter__ (ok_iter T) (b_iter T) T.D_t___len__ (ok_len T) (b_len T) (hr.mono (by decide))) (by rfl) T.g_list (by decide +kernel) (pa_cons (pv 0) pa_nil)) pa_nil)) (blkOk_by (own := [("place", 1)]) (N := ["tree", "place"]) (sc := (defScope s_places_that_stop)) (by decide +kernel)) (fun _ _ _ _ _ => pg_name (i := 1) nd rfl (Or.inl rfl)) (fun _ _ _ _ _ => pts_one (pt_truK (K := K) rfl (pe_gi T.D_t___getitem__ (ok_gi T) (hr.mono (by decide)) (b_gi T) pass0 (pv 0) (pv 1)) (fun _ => rfl))) (fun _ _ _ _ _ => (pv 1))))), ?_⟩
    refine ⟨_, rfl, x, dx, _, l, pl n, rfl, h1, tf_pl _ _ _, SqT.of h2, by rw [pl_len]; omega, ⟨x, n, w, rfl, t, n, rfl, by omega, rfl⟩, fun c nc => ?_⟩
    have s1 := Same.up (o := .lst (pl n)) nc
    have ec : upd H c (.lst (pl n)) c = some (.lst (pl n)) := upd_same
    generalize upd H c (.lst (pl n)) = H1 at s1 ec
    refine ⟨c, _, rfl, SqL.of ec, fun D nD => ?_⟩
    refine lc_it (walk_rev (xs := pl n)) (fun i H' => Acc H1 D (vi (plS n w i)) H') (Acc.start nD) (fun i H' _ ac => SqL.of (ac.s _ _ ec)) ?_ ?_
    · rintro i y H2o H2 hi ac ⟨rfl, hy⟩
      rw [pl_len] at hi hy
      obtain ⟨_, rfl⟩ := pl_at hy
      have hpn : n - 1 - i < n := by omega
      have t2 := (t.same s1).same ac.s
      have h12 := ac.s _ _ (s1 _ _ h1)
      refine ⟨rfl, _, rfl, _, rfl, x, dx, _, rfl, h12, x, n, w, n - 1 - i, rfl, t2, hpn, fun H5 ch s5 hch => ?_⟩
      rw [kids_eq, kids_same n (by omega) w (by omega) (n - 1 - i) hpn hw.1] at hch
      refine ⟨!(vi (kidL n w (n - 1 - i))).isEmpty, .inr (.inl ⟨_, SqT.of hch, rfl⟩), ?_⟩
      have ac5 := ac.same s5
      by_cases h0 : kidL n w (n - 1 - i) = []
      · rw [h0]
        refine iteF ?_
        rw [plS_succ, if_pos h0]
        exact ac5
      · have e0 : (!(vi (kidL n w (n - 1 - i))).isEmpty) = true := by
          cases e : kidL n w (n - 1 - i) with
          | nil => exact absurd e h0
          | cons a b => rfl
        rw [e0]
        have hpl := plS_len n w i
        refine iteT ⟨_, rfl, _, ac5.a, by rw [vi_len, sizeLine_eq]; omega, ?_⟩
        rw [plS_succ, if_neg h0, vi_app]
        exact ac5.push
    · intro H2 ac
      rw [pl_len] at ac
      exact q _ D (s1.trans ac.s) (s1.free nD) ac.a
theorem b_pst (T : Tx K mg A) : L2.Binds K A.d_places_that_stop ["tree"] [] := T.F_places_that_stop.binds fun _ _ _ _ _ _ us hl => match us, hl with | [_], _ => rfl
def spIst (C : Addr) : Sp := fun vs H Q _ => ∃ (t p e x n w : Nat), vs = [.ref t, .int p, .ref x] ∧ H t = some (.tup [.int p, .int e]) ∧ TreeAt C H x n w ∧ p < n ∧ e < n ∧ p ∈ wayL w e ∧ ∀ H' : Hp, Same H H' → Q (.bl true) H'
theorem ok_ist (T : Tx K mg A) : FnOk P w K mg base CX0 7 A.f_is_stop A.d_is_stop ["thing", "place", "tree"] (spIst A.C) := by
  refine T.F_is_stop.ok sc_is_stop (fun vs H Q E h => ?_) (fun cdv B outer s H vs Q E hr h => ?_)
  · obtain ⟨t, p, e, x, n, w, rfl, _⟩ := h
    rfl
  · obtain ⟨u, p, e, x, n, w, rfl, hu2, t, hp, he, hm, q⟩ := h
    have nd := sc_is_stop.nd
    obtain ⟨dx, l, h1, h2⟩ := id t.ob
    have noW : (tf n w l).lookup ("subtree" : Str) = none := tf_no _ _ _ (by decide +kernel) (by decide +kernel) (by decide +kernel)
    refine ⟨_, (pss_cons (ps_if (PW.pt (pw_or (pt_not (pt_val (pe_callB call_isi (by rfl) T.g_isinstance (by decide +kernel) (pa_cons (pv 0) (pa_cons (pe_bltn (v := .ty "tuple") (by rfl) T.g_tuple (by decide +kernel) rfl) pa_nil))))) (pw_or1 (pt_cmpR op_ne (pe_callB call_len_seq (by rfl) T.g_len PySem.boot_len (pa_cons (pv 0) pa_nil)) pe_int (nomark _))))) (pss_one (ps_ret pe_bl)) pss_nil)
      (pss_cons (ps_asg (pv 0) (pg_tup rfl (pgs_cons (pg_name (i := 3) nd rfl (Or.inl rfl)) (pgs_cons (pg_name (i := 4) nd rfl (Or.inl rfl)) pgs_nil))))
      (pss_one (ps_ret (pe_and (pe_cmpR (op_in_own T.D_t___contains__ (ok_cont T) (hr.mono (by decide)) (b_cont T) pass0) (pv 3) (pv 2) (by rfl)) (pe_and (pe_cmpR op_eq (pv 3) (pv 1) (nomark _)) (pe_and (pe_cmpR (op_in_own T.D_t___contains__ (ok_cont T) (hr.mono (by decide)) (b_cont T) pass0) (pv 4) (pv 2) (by rfl)) (pe_one (pe_cmpR (r := L2.rIn K false) op_in_seq (pv 4) (pe_meth (pv 2) T.cT T.M_t_subtree (ok_sub T) (hr.mono (by decide)) (b_sub T) .nil pass0 (pa_cons (pv 1) pa_nil)) (by rfl)))))))))), ?_⟩
    refine ⟨_, rfl, _, _, .type "tuple", .type "tuple", true, rfl, .ty "tuple", .base (.tup hu2), kit_ty (by decide +kernel), true, rfl, iteF ?_⟩
    refine ⟨_, rfl, u, _, rfl, .inr (SqT.of hu2), ?_⟩
    refine ⟨rfl, _, rfl, iteF ?_⟩
    refine ⟨_, rfl, _, _, rfl, SqT.of hu2, rfl, _, _, rfl, _, _, rfl, rfl, ?_⟩
    have d1 : decide (0 ≤ ((p : Nat) : Int) ∧ ((p : Nat) : Int) ≤ (n : Int) - 1) = true := decide_eq_true (by omega)
    have d2 : decide (0 ≤ ((e : Nat) : Int) ∧ ((e : Nat) : Int) ≤ (n : Int) - 1) = true := decide_eq_true (by omega)
    refine ⟨_, rfl, _, rfl, x, dx, _, rfl, h1, x, n, w, _, rfl, t, .inl ⟨_, rfl, _, rfl, _, rfl, ?_⟩⟩
    rw [if_neg Bool.false_ne_true, d1]
    refine iteT ⟨_, rfl, _, rfl, rfl, _, rfl, ?_⟩
    rw [decide_eq_true rfl]
    refine iteT ⟨_, rfl, _, rfl, x, dx, _, rfl, h1, x, n, w, _, rfl, t, .inl ⟨_, rfl, _, rfl, _, rfl, ?_⟩⟩
    rw [if_neg Bool.false_ne_true, d2]
    refine iteT ⟨_, rfl, _, rfl, x, dx, _, rfl, h1, noW, _, rfl, x, n, w, p, rfl, t, hp, fun H1 z s1 n1 e1 => ?_⟩
    refine ⟨z, _, rfl, .inr (SqT.of e1), rfl, vi_flat _, ?_⟩
    have he2 : decide (e ∈ subL n w p) = true := decide_eq_true (List.mem_filter.mpr ⟨List.mem_range.mpr he, decide_eq_true hm⟩)
    rw [if_neg Bool.false_ne_true, mem_vi, he2]
    exact q _ s1
theorem b_ist (T : Tx K mg A) : L2.Binds K A.d_is_stop ["thing", "place", "tree"] [] := T.F_is_stop.binds fun _ _ _ _ _ _ us hl => match us, hl with | [_, _, _], _ => rfl

theorem ix_v {H : Hp} {a : Addr} {xs : List V} {i : Int} {v : V} {Q : VK} (h : SqV H a xs) (e : atI xs i = some v) (q : Q v H) : rIx K (.ref a) (.int i) H Q :=
  h.elim (fun z => .inl ⟨a, _, i, v, rfl, rfl, SqL.of z, e, q⟩) (fun z => .inr (.inl ⟨a, _, i, v, rfl, rfl, SqT.of z, e, q⟩))
theorem isi_lt {H : Hp} {a : Addr} {xs : List V} (h : SqV H a xs) : ∃ c b1, TyX K H (.ref a) (.type c) ∧ PySem.W.kitOne K (.type c) (.type "list") = some b1 ∧ (b1 = false → PySem.W.kitOne K (.type c) (.type "tuple") = some true) := by
  rcases h with h | h
  · exact ⟨"list", true, .base (.lst h), kit_ty (by decide +kernel), fun z => by cases z⟩
  · exact ⟨"tuple", false, .base (.tup h), kit_ty (by decide +kernel), fun _ => kit_ty (by decide +kernel)⟩
theorem stp_stopP {n w : Nat} {f : Nat → Nat} (hf : StOk n w f) : ∀ z ∈ stpL n w f n, StopP n w z := fun z hz => by
  rw [stp_pl] at hz
  obtain ⟨p, hp, rfl⟩ := List.mem_map.mp hz
  obtain ⟨h1, h2⟩ := plS_mem n (Nat.le_refl _) p hp
  obtain ⟨h3, h4⟩ := List.mem_filter.mp (hf p h1 h2)
  exact ⟨p, f p, rfl, h1, List.mem_range.mp h3, of_decide_eq_true h4⟩
theorem stp_len (n w : Nat) (f : Nat → Nat) : (stpL n w f n).length = (plS n w n).length := by rw [stp_pl, List.length_map]
def spCst (C : Addr) : Sp := fun vs H Q _ => ∃ (b x n w : Nat) (xs : List V) (f : Nat → Nat), vs = [.ref b, .ref x] ∧ TreeAt C H x n w ∧ SqV H b xs ∧ PrsAt H xs (stpL n w f n) ∧ StOk n w f ∧ ∀ H' : Hp, Same H H' → Q .non H'
theorem ok_cst (T : Tx K mg A) : FnOk P w K mg base CX0 9 A.f_check_stops A.d_check_stops ["stops", "tree"] (spCst A.C) := by
  refine T.F_check_stops.ok sc_check_stops (fun vs H Q E h => ?_) (fun cdv B outer s H vs Q E hr h => ?_)
  · obtain ⟨b, x, n, w, xs, f, rfl, _⟩ := h
    rfl
  · obtain ⟨b, x, n, w, xs, f, rfl, t, hb, hps, hf, q⟩ := h
    have nd := sc_check_stops.nd
    have xl : xs.length = (plS n w n).length := (Paired.length hps).trans (stp_len n w f)
    have hn := t.hn
    refine ⟨_, (pss_cons (ps_set (i := 2) nd rfl (Or.inl rfl) (pe_call (ok_pst T) (hr.mono (by decide)) (by rfl) T.m_places_that_stop T.F_places_that_stop.kp (b_pst T) .nil pass0 (pa_cons (pv 1) pa_nil)))
      (pss_cons (ps_if (PW.pt (pw_or (pt_not (pt_val (pe_callB call_isiT (by rfl) T.g_isinstance (by decide +kernel) (pa_cons (pv 0) (pa_cons (pe_tup (pa_cons (pe_bltn (v := .ty "list") (by rfl) T.g_list (by decide +kernel) rfl) (pa_cons (pe_bltn (v := .ty "tuple") (by rfl) T.g_tuple (by decide +kernel) rfl) pa_nil))) pa_nil))))) (pw_or1 (pt_cmpR op_ne (pe_callB call_len_seq (by rfl) T.g_len PySem.boot_len (pa_cons (pv 0) pa_nil)) (pe_callB call_len_seq (by rfl) T.g_len PySem.boot_len (pa_cons (pv 2) pa_nil)) (nomark _))))) (pss_one ps_never) pss_nil)
      (pss_one (ps_for PassesOwn.never rfl (pi_enum (by rfl) T.g_enumerate (pa_cons (pv 2) pa_nil)) (pg_tup rfl (pgs_cons (pg_name (i := 3) nd rfl (Or.inl rfl)) (pgs_cons (pg_name (i := 4) nd rfl (Or.inl rfl)) pgs_nil))) (pss_one (ps_if (pt_not (pt_val (pe_call (ok_ist T) (hr.mono (by decide)) (by rfl) T.m_is_stop T.F_is_stop.kp (b_ist T) .nil pass0 (pa_cons (pe_ix (r := rIx K) ix_seq (pv 0) (pv 3) (fun _ _ => rfl)) (pa_cons (pv 4) (pa_cons (pv 1) pa_nil)))))) (pss_one ps_never) pss_nil)))))), ?_⟩
    refine ⟨_, rfl, x, n, w, rfl, t, fun H1 D s1 n1 e1 => ?_⟩
    refine ⟨_, rfl, by show 2 ≤ sizeLine; decide, fun tp htp => ?_⟩
    have s2 := s1.trans (Same.up (o := .tup [.ty "list", .ty "tuple"]) htp)
    have e2 := (Same.up (o := .tup [.ty "list", .ty "tuple"]) htp) _ _ e1
    have etp := upd_same (H := H1) (a := tp) (o := .tup [.ty "list", .ty "tuple"])
    generalize upd H1 tp (.tup [.ty "list", .ty "tuple"]) = H2 at s2 e2 etp
    obtain ⟨c, b1, ty, k1, k2⟩ := isi_lt (K := K) (hb.same s2)
    refine ⟨_, tp, _, .type c, [.type "list", .type "tuple"], true, rfl, etp, .cons (.ty _) (.cons (.ty _) .nil), ty, kitAny_cons k1 (fun z => kitAny_cons (k2 z) (fun z => by cases z) (fun _ => rfl)) (fun _ => rfl), true, rfl, ?_⟩
    refine iteF ⟨_, rfl, b, _, rfl, (hb.same s2).len, _, rfl, D, _, rfl, .inl (SqL.of e2), rfl, _, rfl, ?_⟩
    rw [vi_len, xl, decide_eq_true rfl]
    refine iteF ⟨_, rfl, D, _, rfl, SqL.of e2, for_it (walk_enum (xs := vi (plS n w n))) (fun i σ' H' => (∃ x3 x4 : Option V, σ' = [some (.ref b), some (.ref x), some (.ref D), x3, x4]) ∧ Same H2 H') ⟨⟨none, none, rfl⟩, Same.refl _⟩ (fun i σ' H' _ h => SqL.of (h.2 _ _ e2)) ?_ ?_⟩
    · rintro i v σ' H3 H4 hi ⟨⟨x3, x4, rfl⟩, s3⟩ ⟨T', y, y2, rfl, hT, rfl, e3, e4⟩
      cases e3
      have hi2 : i < (plS n w n).length := by rw [vi_len] at hi; exact hi
      have e4 : (vi (plS n w n))[i]? = some y2 := e4
      unfold vi at e4
      rw [List.getElem?_map, List.getElem?_eq_getElem hi2] at e4
      cases e4
      refine ⟨_, _, rfl, SqT.of upd_same, rfl, _, _, rfl, _, _, rfl, rfl, ?_⟩
      have s4 := s2.trans (s3.trans (Same.up (o := .tup [V.int (i : Nat), V.int ((plS n w n)[i] : Nat)]) hT))
      have s5 := s3.trans (Same.up (o := .tup [V.int (i : Nat), V.int ((plS n w n)[i] : Nat)]) hT)
      generalize upd H3 T' (.tup [V.int (i : Nat), V.int ((plS n w n)[i] : Nat)]) = G at s4 s5
      have hx : xs[i]? = some xs[i] := List.getElem?_eq_getElem (by omega)
      obtain ⟨z, hz, u, eu, hu⟩ := prs_get (hps.same s4) hx
      rw [stp_pl, List.getElem?_map, List.getElem?_eq_getElem hi2] at hz
      cases hz
      obtain ⟨h1, h2⟩ := plS_mem n (Nat.le_refl _) _ (List.getElem_mem hi2)
      obtain ⟨h3, h4⟩ := List.mem_filter.mp (hf _ h1 h2)
      refine ⟨_, rfl, _, rfl, ix_v (hb.same s4) (by rw [atI_nat hx]) ?_⟩
      rw [eu]
      refine ⟨_, rfl, _, rfl, u, _, _, x, n, w, rfl, hu, t.same s4, h1, List.mem_range.mp h3, of_decide_eq_true h4, fun H5 s6 => ?_⟩
      exact ⟨_, rfl, iteF ⟨⟨_, _, rfl⟩, s5.trans s6⟩⟩
    · rintro σ' H3 ⟨⟨x3, x4, rfl⟩, s3⟩
      exact q _ (s2.trans s3)
theorem b_cst (T : Tx K mg A) : L2.Binds K A.d_check_stops ["stops", "tree"] [] := T.F_check_stops.binds fun _ _ _ _ _ _ us hl => match us, hl with | [_, _], _ => rfl
def spDec : Sp := fun vs H Q _ => ∃ (r b w : Nat) (ms : List Int) (xs : List V) (f : Nat → Nat), vs = [.ref r, .ref b, .int w] ∧ (1 ≤ w ∧ w ≤ 4) ∧ RowIn H r ms ∧ faultL ms w = [] ∧ ms.Nodup ∧ SqV H b xs ∧ PrsAt H xs (stpL ms.length w f ms.length) ∧ StOk ms.length w f ∧
  ∀ (H' : Hp) (t : Addr), Same H H' → H' t = some (.tup ((backL ms.length w f ms ms.length).map V.int)) → Q (.ref t) H'
theorem ok_dec (T : Tx K mg A) : FnOk P w K mg base CX0 10 A.f_decode A.d_decode ["row", "stops", "arms"] spDec := by
  obtain ⟨mo, ko⟩ := kb_of T
  refine T.F_decode.ok sc_decode (fun vs H Q E h => ?_) (fun cdv B outer s H vs Q E hr h => ?_)
  · obtain ⟨r, b, w, ms, xs, f, rfl, _⟩ := h
    rfl
  · obtain ⟨r, b, w, ms, xs, f, rfl, hw, hrow, hfl, hd, hb, hps, hf, q⟩ := h
    have nd := sc_decode.nd
    refine ⟨_, PSs.nox (pss_cons (ps_set (i := 3) nd rfl (Or.inl rfl) (pe_call (ok_dh T) (hr.mono (by decide)) (by rfl) T.m_different_heap_of T.F_different_heap_of.kp (b_dh T) .nil pass0 (pa_cons (pv 0) (pa_cons (pv 2) pa_nil))))
      (pss_cons (ps_set (i := 4) nd rfl (Or.inl rfl) (pe_cmethK (pe_glob (v := .ref A.C) (by rfl) T.mC (relR _)) T.cr T.cof (ok_of T) (hr.mono (by decide)) ko pass0 (pa_cons (pv 3) pa_nil) (pk_cons (pv 2) pk_nil)))
      (pss_cons (ps_expr (pe_call (ok_cst T) (hr.mono (by decide)) (by rfl) T.m_check_stops T.F_check_stops.kp (b_cst T) .nil pass0 (pa_cons (pv 1) (pa_cons (pv 4) pa_nil))))
      (pss_one (ps_ret (pe_call (ok_rw T) (hr.mono (by decide)) (by rfl) T.m_row_with T.F_row_with.kp (b_rw T) .nil pass0 (pa_cons (pv 3) (pa_cons (pv 1) (pa_cons (pv 4) pa_nil))))))))), ?_⟩
    refine ⟨_, rfl, _, rfl, r, w, ms, rfl, hw, hrow, hfl, hd, fun H1 h s1 e1 => ?_⟩
    refine ⟨rfl, _, rfl, _, rfl, rfl, rfl, h, w, ms, rfl, hw, .inr e1, hrow.2.1, hrow.2.2, fun H2 tr s2 p0 t2 => ?_⟩
    have s12 := s1.trans s2
    refine ⟨_, rfl, _, rfl, b, tr, ms.length, w, xs, f, rfl, t2, hb.same s12, hps.same s12, hf, fun H3 s3 => ?_⟩
    have s13 := s12.trans s3
    refine ⟨_, rfl, _, rfl, _, rfl, h, b, tr, ms.length, w, ms, xs, _, rfl, s3 _ _ (s2 _ _ e1), hb.same s13, hps.same s13, t2.same s3, rfl, stp_stopP hf, ?_, fun H4 t s4 e4 => q H4 t (s13.trans s4) ?_⟩
    · have := plS_len ms.length w ms.length
      rw [stp_len]
      have := hrow.2.1
      omega
    · have e := back_stp (n := ms.length) (w := w) (f := f) (R := ms) ms.length (Nat.le_refl _)
      rw [Nat.sub_self] at e
      have e : (stpL ms.length w f ms.length).foldr (fun x r => undoP w r x) ms = backL ms.length w f ms ms.length := e
      rw [← e]
      exact e4
theorem kb_dec (T : Tx K mg A) : ∃ mv : List Value, KBn K A.d_decode ["row", "stops", "arms"] 2 ["arms"] (fun us ws => us ++ (mv ++ ws)) (fun vs zs => vs ++ zs) := by
  obtain ⟨mv, h⟩ := T.F_decode.kbinds0 (ps := ["row", "stops", "arms"]) 2 ["arms"] [] (fun us mv ws => us ++ (mv ++ ws)) (by simp) (by simp) (fun r1 r2 r3 => r1.append (r2.append r3))
    (fun D doc pm an cdv ct us mv ws h1 h2 h3 => by
      match us, mv, ws, h1, h2, h3 with
      | [a, b], [], [c], _, _, _ => rfl)
  exact ⟨mv, h⟩
theorem bd_dec (T : Tx K mg A) : ∃ ds, Vals [V.int 2] ds ∧ L2.Binds K A.d_decode ["row", "stops", "arms"] ds := by
  refine T.F_decode.binds0 2 (by simp) rfl (fun D doc pm an cdv ct us ks h1 h2 => ?_)
  match us, ks, h1, h2 with
  | [a, b], [c], _, _ => exact ⟨_, _, _, _, _, _, rfl, rfl, rfl⟩
/-- a pair of a row and stops -/
def CodeAt (H : Hp) (q : Addr) (ks : List Int) (ps : List (Int × Int)) : Prop := ∃ (t1 t2 : Addr) (xs : List V), H q = some (.tup [.ref t1, .ref t2]) ∧ H t1 = some (.tup (ks.map V.int)) ∧ H t2 = some (.tup xs) ∧ PrsAt H xs ps
theorem CodeAt.same {H H' : Hp} {q : Addr} {ks : List Int} {ps : List (Int × Int)} (h : CodeAt H q ks ps) (s : Same H H') : CodeAt H' q ks ps := let ⟨t1, t2, xs, a, b, c, e⟩ := h; ⟨t1, t2, xs, s _ _ a, s _ _ b, s _ _ c, e.same s⟩
def spCode (A : Ad) : Sp := fun vs H Q _ => ∃ (r w : Nat) (ks : List Int), vs = [.ref r, .int w] ∧ (1 ≤ w ∧ w ≤ 4) ∧ RowIn H r ks ∧ ks.Nodup ∧ Tabs (TT A) H ∧
  ∀ (H' : Hp) (q : Addr), ExtN H H' → Tabs (TT A) H' → CodeAt H' q (bld ks.length w ks ks.length).1 (bld ks.length w ks ks.length).2.1 → Q (.ref q) H'
theorem ok_code (T : Tx K mg A) (TB : LamX.TabB base mg A.c_least_child A.P_least_child) : FnOk P w K mg base CX0 9 A.f_code A.d_code ["row", "arms"] (spCode A) := by
  obtain ⟨mb, kb⟩ := kb_build T
  refine T.F_code.ok sc_code (fun vs H Q E h => ?_) (fun cdv B outer s H vs Q E hr h => ?_)
  · obtain ⟨r, w, ks, rfl, _⟩ := h
    rfl
  · obtain ⟨r, w, ks, rfl, hw, hrow, hd, hT, q⟩ := h
    have nd := sc_code.nd
    refine ⟨_, PSs.nox (pss_cons (ps_set (i := 2) nd rfl (Or.inl rfl) (pe_callN (ok_build T TB) (hr.mono (by decide)) (by rfl) T.m_build T.F_build.kp kb pass0 (pa_cons (pv 0) pa_nil) (pk_cons (pv 1) pk_nil)))
      (pss_cons (ps_expr (pe_call (ok_cd T) (hr.mono (by decide)) (by rfl) T.m_check_different T.F_check_different.kp (b_cd T) .nil pass0 (pa_cons (pv 0) pa_nil)))
      (pss_one (ps_ret (pe_tup (pa_cons (pe_fld (pv 2) rfl) (pa_cons (pe_fld (pv 2) rfl) pa_nil))))))), ?_⟩
    refine ⟨_, rfl, _, rfl, rfl, rfl, r, w, ks, rfl, hw, hrow, hT, fun H1 m e1 t1 bm => ?_⟩
    refine ⟨_, rfl, r, ks, rfl, hrow.1.ext e1, hd, fun H2 s2 => ?_⟩
    obtain ⟨dx, u1, u2, xs, g1, g2, g3, g4⟩ := bm.same s2
    refine ⟨_, rfl, m, A.CB, dx, _, _, rfl, g1, T.cTB, T.bRow, uf_row _ _ _ _, _, rfl, m, A.CB, dx, _, _, rfl, g1, T.cTB, T.bStops, uf_stops _ _ _ _, by show 2 ≤ sizeLine; decide, fun t nt => ?_⟩
    have s3 := Same.up (o := .tup [.ref u1, .ref u2]) nt
    exact q _ t (e1.trans (extN_of (s2.trans s3))) (t1.ext (s2.trans s3)) ⟨u1, u2, xs, upd_same, s3 _ _ g2, s3 _ _ g3, g4.same s3⟩
theorem kb_code (T : Tx K mg A) : ∃ mv : List Value, KBn K A.d_code ["row", "arms"] 1 ["arms"] (fun us ws => us ++ (mv ++ ws)) (fun vs zs => vs ++ zs) := by
  obtain ⟨mv, h⟩ := T.F_code.kbinds0 (ps := ["row", "arms"]) 1 ["arms"] [] (fun us mv ws => us ++ (mv ++ ws)) (by simp) (by simp) (fun r1 r2 r3 => r1.append (r2.append r3))
    (fun D doc pm an cdv ct us mv ws h1 h2 h3 => by
      match us, mv, ws, h1, h2, h3 with
      | [a], [], [c], _, _, _ => rfl)
  exact ⟨mv, h⟩
theorem bd_code (T : Tx K mg A) : ∃ ds, Vals [V.int 2] ds ∧ L2.Binds K A.d_code ["row", "arms"] ds := by
  refine T.F_code.binds0 1 (by simp) rfl (fun D doc pm an cdv ct us ks h1 h2 => ?_)
  match us, ks, h1, h2 with
  | [a], [c], _, _ => exact ⟨_, _, _, _, _, _, rfl, rfl, rfl⟩

end
end Tw

set_option Elab.async false
set_option linter.all false
set_option maxRecDepth 100000
set_option maxHeartbeats 2000000
namespace Tw
open PySem PySem.Spec PyProof.Rows L2
section
variable {P : Program} {w : World} {K : PySem.W.Frag} {mg : Str → Option Value} {base : Heap} {A : Ad}
open LamX (ExtN Tabs TabS)
/-- a heap by pushes -/
def pushAll (w : Nat) (ks : List Int) : Nat → List Int
  | 0 => []
  | i + 1 => (goUp w 20 (pushAll w ks i ++ [ks.getD i 0]) i [i] 0).1
def HeapL (n w : Nat) (ks : List Int) : Prop := ∀ c, 1 ≤ c → c < n → keyAt ks ((c - 1) / w) ≤ keyAt ks c
theorem par_lt {w c : Nat} (h : 1 ≤ c) : (c - 1) / w < c := Nat.lt_of_le_of_lt (Nat.div_le_self _ _) (by omega)
theorem up_good {n w : Nat} : ∀ (f : Nat) (ks : List Int) (cur : Nat) (way : List Nat) (lk : Nat), ks.length = n → cur < n → cur ≤ f →
    (∀ c, 1 ≤ c → c < n → c ≠ cur → keyAt ks ((c - 1) / w) ≤ keyAt ks c) → (∀ c, 1 ≤ c → c < n → (c - 1) / w = cur → cur ≠ 0 → keyAt ks ((cur - 1) / w) ≤ keyAt ks c) → HeapL n w (goUp w f ks cur way lk).1
  | 0, ks, cur, way, lk, hl, hc, hf, g, up => fun c h1 h2 => g c h1 h2 (by omega)
  | f + 1, ks, cur, way, lk, hl, hc, hf, g, up => by
    by_cases h0 : cur = 0
    · subst h0
      rw [goUp_root]
      exact fun c h1 h2 => g c h1 h2 (by omega)
    · have hp := par_lt (w := w) (c := cur) (by omega)
      by_cases hlt : keyAt ks cur < keyAt ks ((cur - 1) / w)
      · rw [goUp_go h0 hlt]
        generalize ep : (cur - 1) / w = p at *
        have ka : cur < ks.length := by omega
        have kb : p < ks.length := by omega
        refine up_good f _ p _ _ (by rw [swp_len]; exact hl) (by omega) (by omega) (fun c h1 h2 hcp => ?_) (fun c h1 h2 hcp hp0 => ?_)
        · rw [keyAt_swp ka kb, keyAt_swp ka kb, if_neg hcp]
          by_cases ec : c = cur
          · subst ec
            rw [ep, if_pos rfl, if_pos rfl]
            omega
          · rw [if_neg ec]
            by_cases e1 : (c - 1) / w = p
            · rw [if_pos e1]
              have := g c h1 h2 ec
              rw [e1] at this
              omega
            · rw [if_neg e1]
              by_cases e2 : (c - 1) / w = cur
              · rw [if_pos e2]
                exact up c h1 h2 e2 h0
              · rw [if_neg e2]
                exact g c h1 h2 ec
        · have hpp := par_lt (w := w) (c := p) (by omega)
          have hc1 := par_lt (w := w) h1
          have a := g p (by omega) (by omega) (by omega)
          rw [keyAt_swp ka kb, keyAt_swp ka kb, if_neg (by omega), if_neg (by omega), if_neg (by omega)]
          by_cases ec : c = cur
          · rw [if_pos ec]
            exact a
          · rw [if_neg ec]
            have b := g c h1 h2 ec
            rw [hcp] at b
            omega
      · rw [goUp_stay h0 hlt]
        intro c h1 h2
        by_cases ec : c = cur
        · subst ec
          exact Int.not_lt.mp hlt
        · exact g c h1 h2 ec
theorem up_perm {w : Nat} : ∀ (f : Nat) (ks : List Int) (cur : Nat) (way : List Nat) (lk : Nat), cur < ks.length → ((goUp w f ks cur way lk).1).Perm ks
  | 0, ks, cur, way, lk, hc => List.Perm.refl _
  | f + 1, ks, cur, way, lk, hc => by
    by_cases h0 : cur = 0
    · subst h0
      rw [goUp_root]
    · have hp := par_lt (w := w) (c := cur) (by omega)
      by_cases hlt : keyAt ks cur < keyAt ks ((cur - 1) / w)
      · rw [goUp_go h0 hlt]
        exact (up_perm f _ _ _ _ (by rw [swp_len]; omega)).trans (swp_perm hc (by omega))
      · rw [goUp_stay h0 hlt]
theorem keyAt_app {ks : List Int} {k : Int} {p : Nat} (h : p < ks.length) : keyAt (ks ++ [k]) p = keyAt ks p := by
  unfold keyAt
  rw [List.getD_eq_getElem?_getD, List.getD_eq_getElem?_getD, List.getElem?_append_left h]
theorem push_ok {w : Nat} {ks : List Int} {k : Int} (hl : ks.length < 12) (h : HeapL ks.length w ks) : HeapL (ks.length + 1) w (goUp w 20 (ks ++ [k]) ks.length [ks.length] 0).1 ∧ ((goUp w 20 (ks ++ [k]) ks.length [ks.length] 0).1).Perm (ks ++ [k]) := by
  have hl2 : (ks ++ [k]).length = ks.length + 1 := by rw [List.length_append]; rfl
  refine ⟨up_good 20 _ _ _ _ hl2 (by omega) (by omega) (fun c h1 h2 hc => ?_) (fun c h1 h2 hc _ => ?_), up_perm 20 _ _ _ _ (by omega)⟩
  · have := par_lt (w := w) h1
    rw [keyAt_app (by omega), keyAt_app (by omega)]
    exact h c h1 (by omega)
  · have := par_lt (w := w) h1
    omega
theorem pushAll_ok {w : Nat} {ks : List Int} (hl : ks.length ≤ 12) : ∀ i, i ≤ ks.length → (pushAll w ks i).length = i ∧ HeapL i w (pushAll w ks i) ∧ (pushAll w ks i).Perm (ks.take i)
  | 0, _ => ⟨rfl, fun c h1 h2 => absurd h2 (by omega), List.Perm.refl _⟩
  | i + 1, hi => by
    obtain ⟨h1, h2, h3⟩ := pushAll_ok (w := w) hl i (by omega)
    have hk : i < ks.length := by omega
    obtain ⟨p1, p2⟩ := push_ok (k := ks.getD i 0) (by omega) (by rw [h1]; exact h2 : HeapL (pushAll w ks i).length w (pushAll w ks i))
    rw [h1] at p1 p2
    have e : pushAll w ks (i + 1) = (goUp w 20 (pushAll w ks i ++ [ks.getD i 0]) i [i] 0).1 := rfl
    rw [e]
    refine ⟨by rw [p2.length_eq, List.length_append, h1]; rfl, p1, p2.trans ?_⟩
    rw [← List.take_append_getElem hk, List.getD_eq_getElem?_getD, List.getElem?_eq_getElem hk]
    exact List.Perm.append_right _ h3
def spLH2 : Sp := fun vs H Q _ => ∃ (a w : Nat) (ks : List Int), vs = [.ref a, .int w] ∧ (1 ≤ w ∧ w ≤ 4) ∧ H a = some (.lst (ks.map V.int)) ∧ ks.length ≤ 12 ∧
  ∀ (H' : Hp) (q : Addr) (ms : List Int), Same H H' → HeapL ms.length w ms → ms.Perm ks → H q = none → H' q = some (.lst (ms.map V.int)) → Q (.ref q) H'
theorem ok_lh (T : Tx K mg A) : FnOk P w K mg base CX0 3 A.f__law_heap A.d__law_heap ["keys", "wide"] spLH2 := by
  refine T.F__law_heap.ok sc__law_heap (fun vs H Q E h => ?_) (fun cdv B outer s H vs Q E hr h => ?_)
  · obtain ⟨a, w, ks, rfl, _⟩ := h
    rfl
  · obtain ⟨a, w, ks, rfl, hw, ha, hl, q⟩ := h
    have nd := sc__law_heap.nd
    refine ⟨_, (pss_cons (ps_set (i := 2) nd rfl (Or.inl rfl) (pe_lst pa_nil))
      (pss_cons (ps_for PassesOwn.never rfl (pi_list (pv 0)) (pg_name (i := 3) nd rfl (Or.inl rfl)) (pss_cons (ps_expr (pe_bm PySem.F.plainAttrs_list PySem.F.slot_list_append PySem.F.type_list_append mt_append (pv 2) (pa_cons (pv 3) pa_nil)))
      (C8.pss_cut (ps_set (i := 4) nd rfl (Or.inl rfl) (pe_op op_sub (pe_callB call_len_seq (by rfl) T.g_len PySem.boot_len (pa_cons (pv 2) pa_nil)) pe_int))
      (pss_one (ps_for PassesOwn.never rfl (pi_range1 rfl T.g_range (pa_cons pe_int pa_nil)) (pg_name (i := 5) nd rfl (Or.inl rfl)) (pss_cons (ps_if (PW.pt (pw_or (pt_cmpR op_eq (pv 4) pe_int (nomark _)) (pw_or1 (pt_cmpR op_le (pe_ix ix_list (pv 2) (pe_call (ok_lpar T) (hr.mono (by decide)) (by rfl) T.m__law_parent T.F__law_parent.kp (b_lpar T) .nil pass0 (pa_cons (pv 1) (pa_cons (pv 4) pa_nil))) (fun _ _ => rfl)) (pe_ix ix_list (pv 2) (pv 4) (fun _ _ => rfl)) (nomark _))))) (pss_one ps_break) pss_nil)
      (pss_cons (ps_set (i := 6) nd rfl (Or.inl rfl) (pe_call (ok_lpar T) (hr.mono (by decide)) (by rfl) T.m__law_parent T.F__law_parent.kp (b_lpar T) .nil pass0 (pa_cons (pv 1) (pa_cons (pv 4) pa_nil))))
      (pss_cons (ps_asg (pe_tup (pa_cons (pe_ix ix_list (pv 2) (pv 6) (fun _ _ => rfl)) (pa_cons (pe_ix ix_list (pv 2) (pv 4) (fun _ _ => rfl)) pa_nil))) (pg_tup rfl (pgs_cons (pg_sub (pv 2) (pv 4) set_list) (pgs_cons (pg_sub (pv 2) (pv 6) set_list) pgs_nil))))
      (pss_one (ps_set (i := 4) nd rfl (Or.inl rfl) (pv 6)))))))))))
      (pss_one (ps_ret (pv 2))))), ?_⟩
    refine ⟨Nat.zero_le _, fun D hD => ?_⟩
    refine ⟨_, rfl, a, rfl, ⟨_, SqL.of ((Same.up hD) _ _ ha)⟩, for_list (K := K) (a := a) (xs := ks.map V.int) (fun i σ H' => ∃ (x3 x4 x5 x6 : Option V), σ = [some (.ref a), some (.int w), some (.ref D), x3, x4, x5, x6] ∧ Acc H D ((pushAll w ks i).map V.int) H')
      ⟨none, none, none, none, rfl, Acc.start hD⟩ (fun i σ H' _ ⟨_, _, _, _, _, ac⟩ => SqL.of (ac.s _ _ ha)) ?_ ?_⟩
    · rintro i x σ H1 hx ⟨x3, x4, x5, x6, rfl, ac⟩
      obtain ⟨hi, rfl⟩ := ints_at hx
      obtain ⟨hml, _, _⟩ := pushAll_ok (w := w) hl i (by omega)
      refine ⟨_, rfl, .inl ⟨rfl, _, SqL.of ac.a⟩, _, rfl, D, _, _, rfl, rfl, ac.a, small1000 (by rw [List.length_map]; omega), ?_⟩
      have ek : ks[i] = ks.getD i 0 := by rw [List.getD_eq_getElem?_getD, List.getElem?_eq_getElem hi]; rfl
      rw [map_one]
      have ac1 : Acc H D ((pushAll w ks i ++ [ks[i]]).map V.int) (upd H1 D (.lst ((pushAll w ks i ++ [ks[i]]).map V.int))) := ac.push
      have hml1 : (pushAll w ks i ++ [ks[i]]).length = i + 1 := by rw [List.length_append, hml]; rfl
      have eR : pushAll w ks (i + 1) = (goUp w 20 (pushAll w ks i ++ [ks[i]]) i [i] 0).1 := by rw [ek]; rfl
      rw [eR]
      generalize pushAll w ks i ++ [ks[i]] = m1 at ac1 hml1
      generalize upd H1 D (.lst (m1.map V.int)) = G1 at ac1
      refine ⟨fun σ' H' => σ' = [some (.ref a), some (.int w), some (.ref D), some (.int ks[i]), some (.int (i : Nat)), x5, x6] ∧ H' = G1, ?_, ?_⟩
      · refine ⟨_, rfl, D, _, rfl, .inl (SqL.of ac1.a), _, _, rfl, rfl, ?_, rfl⟩
        show ([some (.ref a), some (.int w), some (.ref D), some (.int ks[i]), some (V.int (((m1.map V.int).length : Nat) - 1 : Int)), x5, x6] : List (Option V)) = _
        rw [List.length_map, hml1, show (((i + 1 : Nat) : Int) - 1) = (i : Int) by omega]
      rintro σ' H' ⟨rfl, rfl⟩
      refine ⟨20, rfl, by decide, by decide, for_range (n := 20) (fun k σ H' => ∃ (ms : List Int) (p : Nat) (way : List Nat) (lk : Nat) (x3 x5 x6 : Option V), σ = [some (.ref a), some (.int w), some (.ref D), x3, some (.int p), x5, x6] ∧ Acc H D (ms.map V.int) H' ∧ ms.length = i + 1 ∧ p < i + 1 ∧ k ≤ 20 ∧ goUp w 20 m1 i [i] 0 = (goUp w (20 - k) ms p way lk))
        ⟨m1, i, [i], 0, _, _, _, rfl, ac1, hml1, by omega, by omega, rfl⟩ ?_ ?_⟩
      · rintro k σ H2 hk ⟨m2, p, way, lk, y3, y5, y6, rfl, ac2, hml2, hp, hk2, eg⟩
        have ef : 20 - k = (20 - (k + 1)) + 1 := by omega
        rw [ef] at eg
        refine ⟨_, rfl, rfl, _, rfl, ?_⟩
        by_cases h0 : p = 0
        · rw [decide_eq_true (show V.int (p : Nat) = V.int 0 by rw [h0]; rfl)]
          rw [h0, goUp_root] at eg
          rw [eg]
          exact iteT (iteT ⟨_, _, _, _, rfl, ac2⟩)
        · rw [decide_eq_false (show ¬ V.int (p : Nat) = V.int 0 by intro z; injection z with z; omega)]
          have hlt : (p - 1) / w < p := Nat.lt_of_le_of_lt (Nat.div_le_self _ _) (by omega)
          have hq2 : (p - 1) / w < m2.length := by omega
          have hp2 : p < m2.length := by omega
          refine iteF ⟨_, rfl, _, rfl, _, rfl, w, p, rfl, hw, by omega, D, _, _, _, rfl, rfl, SqL.of ac2.a, key_at hq2, _, rfl, _, rfl, D, _, _, _, rfl, rfl, SqL.of ac2.a, key_at hp2, _, _, rfl, rfl, _, rfl, ?_⟩
          by_cases hle : keyAt m2 ((p - 1) / w) ≤ keyAt m2 p
          · rw [decide_eq_true hle]
            rw [goUp_stay h0 (by omega)] at eg
            rw [eg]
            exact iteT ⟨_, _, _, _, rfl, ac2⟩
          rw [decide_eq_false hle]
          refine iteF ?_
          rw [goUp_go h0 (by omega)] at eg
          refine ⟨_, rfl, _, rfl, w, p, rfl, hw, by omega, ?_⟩
          refine ⟨_, rfl, _, rfl, D, _, _, _, rfl, rfl, SqL.of ac2.a, key_at hq2, _, rfl, _, rfl, D, _, _, _, rfl, rfl, SqL.of ac2.a, key_at hp2, by show 2 ≤ sizeLine; decide, fun t ht => ?_⟩
          have ac3 := ac2.same (Same.up (o := .tup [V.int (keyAt m2 ((p - 1) / w)), V.int (keyAt m2 p)]) ht)
          have et : upd H2 t (.tup [V.int (keyAt m2 ((p - 1) / w)), V.int (keyAt m2 p)]) t = some (.tup [V.int (keyAt m2 ((p - 1) / w)), V.int (keyAt m2 p)]) := upd_same
          generalize upd H2 t (.tup [V.int (keyAt m2 ((p - 1) / w)), V.int (keyAt m2 p)]) = G3 at ac3 et
          refine ⟨t, _, rfl, SqT.of et, rfl, _, _, rfl, _, rfl, _, rfl, D, _, _, p, rfl, rfl, ac3.a, ixN_nat (by rw [List.length_map]; exact hp2), ?_⟩
          rw [set_int]
          have ac4 : Acc H D ((m2.set p (keyAt m2 ((p - 1) / w))).map V.int) (upd G3 D (.lst ((m2.set p (keyAt m2 ((p - 1) / w))).map V.int))) := ac3.push
          generalize upd G3 D (.lst ((m2.set p (keyAt m2 ((p - 1) / w))).map V.int)) = G4 at ac4
          refine ⟨_, _, rfl, _, rfl, _, rfl, D, _, _, (p - 1) / w, rfl, rfl, ac4.a, ixN_nat (by rw [List.length_map, List.length_set]; omega), ?_⟩
          rw [set_int, show (m2.set p (keyAt m2 ((p - 1) / w))).set ((p - 1) / w) (keyAt m2 p) = swp m2 p ((p - 1) / w) from rfl]
          exact ⟨rfl, _, rfl, swp m2 p ((p - 1) / w), (p - 1) / w, _, _, _, _, _, rfl, ac4.push, by rw [swp_len]; exact hml2, by omega, by omega, eg⟩
      · rintro σ H2 ⟨m2, p, way, lk, y3, y5, y6, rfl, ac2, hml2, hp, hk2, eg⟩
        rw [show goUp w (20 - 20) m2 p way lk = (m2, way, lk) from rfl] at eg
        rw [eg]
        exact ⟨_, _, _, _, rfl, ac2⟩
    · rintro σ H1 ⟨x3, x4, x5, x6, rfl, ac⟩
      rw [List.length_map] at ac
      obtain ⟨h1, h2, h3⟩ := pushAll_ok (w := w) hl ks.length (Nat.le_refl _)
      rw [List.take_length] at h3
      exact ⟨_, rfl, q _ D _ ac.s (by rw [h1]; exact h2) h3 hD ac.a⟩
theorem b_lh (T : Tx K mg A) : L2.Binds K A.d__law_heap ["keys", "wide"] [] := T.F__law_heap.binds fun _ _ _ _ _ _ us hl => match us, hl with | [_, _], _ => rfl
theorem at_perm : ∀ (s : List Int) (j : Nat) (h : j < s.length), (s[j] :: s.eraseIdx j).Perm s
  | a :: l, 0, _ => List.Perm.refl _
  | a :: l, j + 1, h => (List.Perm.swap a _ _).trans ((at_perm l j (Nat.lt_of_succ_lt_succ h)).cons a)
theorem era_map : ∀ (l : List Int) (i : Nat), (l.map V.int).eraseIdx i = (l.eraseIdx i).map V.int
  | [], _ => rfl
  | _ :: _, 0 => rfl
  | a :: l, i + 1 => by
    rw [List.map_cons, List.eraseIdx_cons_succ, List.eraseIdx_cons_succ, List.map_cons, era_map l i]
def rgI (n : Nat) : List Int := (List.range n).map fun i => ((i : Nat) : Int)
theorem rgI_pl (n : Nat) : pl n = (rgI n).map V.int := by
  unfold pl rgI
  rw [List.map_map]
  rfl
theorem rgI_len (n : Nat) : (rgI n).length = n := by
  unfold rgI
  rw [List.length_map, List.length_range]
/-- an order of the first numbers -/
def spLO (K : PySem.W.Frag) : Sp := fun vs H Q _ => ∃ (d a : Addr) (ns : List Int) (k n : Nat), vs = [.ref d, .int n] ∧ DrAt K H d a ns k ∧ k < 50000 ∧ n ≤ 12 ∧
  ∀ (H' : Hp) (q : Addr) (os : List Int) (k' : Nat), But d H H' → DrAt K H' d a ns k' → k' ≤ k + 12 → os.Perm (rgI n) → H q = none → H' q = some (.lst (os.map V.int)) → Q (.ref q) H'
theorem ok_lo (T : Tx K mg A) : FnOk P w K mg base CX0 4 A.f__law_order A.d__law_order ["draw", "many"] (spLO K) := by
  refine T.F__law_order.ok sc__law_order (fun vs H Q E h => ?_) (fun cdv B outer s H vs Q E hr h => ?_)
  · obtain ⟨d, a, ns, k, n, rfl, _⟩ := h
    rfl
  · obtain ⟨d, a, ns, k, n, rfl, dr, hk, hn, q⟩ := h
    have nd := sc__law_order.nd
    refine ⟨_, (pss_cons (ps_par (i := 2) (j := 3) rfl nd rfl rfl (by decide) rfl rfl (pa_cons (pe_listRg rfl (by rfl) T.g_list (prg_1 (by rfl) T.g_range (pv 1))) (pa_cons (pe_lst pa_nil) pa_nil)) rfl)
      (C8.pss_cut (ps_for PassesOwn.never rfl (pi_range1 rfl T.g_range (pa_cons (pv 1) pa_nil)) (pg_name (i := 4) nd rfl (Or.inl rfl)) (pss_one (ps_expr (pe_bm PySem.F.plainAttrs_list PySem.F.slot_list_append PySem.F.type_list_append mt_append (pv 3) (pa_cons (pe_bm PySem.F.plainAttrs_list PySem.F.slot_list_pop PySem.F.type_list_pop mt_popAt (pv 2) (pa_cons (pe_call (ok_take T) (hr.mono (by decide)) (by rfl) T.m__law_take T.F__law_take.kp (b_take T) .nil pass0 (pa_cons (pv 0) (pa_cons (pe_callB call_len_seq (by rfl) T.g_len PySem.boot_len (pa_cons (pv 2) pa_nil)) pa_nil))) pa_nil)) pa_nil)))))
      (pss_one (ps_ret (pv 3))))), ?_⟩
    refine ⟨_, rfl, _, rfl, RgOk.of_le (by omega) (by omega) (by omega) (by omega), fun L nL => ?_⟩
    refine ⟨Nat.zero_le _, fun O nO => ⟨_, _, rfl, ?_⟩⟩
    have sL : Same H (upd H L (.lst (rgV 0 (n : Nat)))) := Same.up nL
    have nO0 := sL.free nO
    have hLO : O ≠ L := fun z => by
      rw [z, upd_same] at nO
      cases nO
    have hLd : L ≠ d := fun z => by rw [z, dr.l] at nL; cases nL
    have hOd : O ≠ d := fun z => by rw [z, dr.l] at nO0; cases nO0
    have s0 : Same H (upd (upd H L (.lst (rgV 0 (n : Nat)))) O (.lst [])) := sL.trans (Same.up nO)
    refine ⟨fun σ' H' => (∃ x4 : Option V, σ' = [some (.ref d), some (.int n), some (.ref L), some (.ref O), x4]) ∧ ∃ os : List Int, H' O = some (.lst (os.map V.int)) ∧ os.Perm (rgI n) ∧ But d H H' ∧ DrAt K H' d a ns (k + n), ?_, ?_⟩
    · refine ⟨_, rfl, _, rfl, by omega, by omega, ?_⟩
      rw [Int.toNat_natCast]
      refine for_it (walk_range (lo := 0) (n := n)) (fun i σ' H' => (∃ x4 : Option V, σ' = [some (.ref d), some (.int n), some (.ref L), some (.ref O), x4]) ∧ ∃ ls os : List Int, H' L = some (.lst (ls.map V.int)) ∧ H' O = some (.lst (os.map V.int)) ∧ (os ++ ls).Perm (rgI n) ∧ os.length = i ∧ But d H H' ∧ DrAt K H' d a ns (k + i))
        ⟨⟨none, rfl⟩, rgI n, [], ?_, upd_same, List.Perm.refl _, rfl, But.of s0, ⟨s0 _ _ dr.l, dr.n, s0.seq dr.s, dr.h⟩⟩ (fun i σ' H' _ _ => trivial) ?_ ?_
      · rw [upd_ne hLO.symm, upd_same, rg_pl, rgI_pl]
      · rintro i x σ' H2 H3 hi ⟨⟨x4, rfl⟩, ls, os, eL, eO, perm, hoi, b2, dr2⟩ ⟨rfl, ex⟩
        have hln := perm.length_eq
        rw [List.length_append, rgI_len] at hln
        refine ⟨_, rfl, .inl ⟨rfl, _, SqL.of eO⟩, _, rfl, .inl ⟨rfl, _, SqL.of eL⟩, _, rfl, _, rfl, L, _, rfl, .inl (SqL.of eL), ?_⟩
        refine ⟨d, a, ns, k + i, ls.length, by rw [List.length_map]; rfl, dr2, by omega, by omega, fun H4 r b4 dr4 hr4 => ?_⟩
        have eL4 := b4 _ _ hLd eL
        have eO4 := b4 _ _ hOd eO
        refine ⟨L, _, _, r, V.int ls[r], rfl, rfl, eL4, by omega, by omega, ?_, ?_, ?_⟩
        · unfold seqIndex?
          rw [List.length_map]
          simp
          omega
        · rw [List.getElem?_map, List.getElem?_eq_getElem hr4]
          rfl
        have bb : ∀ zs zs2 : List V, But d H (upd (upd H4 L (.lst zs)) O (.lst zs2)) := fun zs zs2 b o hb e => by
          rw [upd_ne (ne_of_none e nO0), upd_ne (ne_of_none e nL)]
          exact b4 _ _ hb (b2 b o hb e)
        have eO5 : ∀ zs : List V, upd H4 L (.lst zs) O = some (.lst (os.map V.int)) := fun zs => by rw [upd_ne hLO]; exact eO4
        refine ⟨O, _, _, rfl, rfl, eO5 _, by rw [List.length_map, sizeLine_eq]; omega, ⟨_, rfl⟩, ls.eraseIdx r, os ++ [ls[r]], ?_, ?_, ?_, by rw [List.length_append, hoi]; rfl, bb _ _, ⟨?_, dr4.n, (bb _ _).seq dr.s dr.n, dr4.h⟩⟩
        · rw [upd_ne hLO.symm, upd_same, era_map]
        · rw [upd_same, List.map_append]
          rfl
        · rw [List.append_assoc]
          exact ((at_perm ls r hr4).append_left os).trans perm
        · rw [upd_ne hOd.symm, upd_ne hLd.symm]
          exact dr4.l
      · rintro σ' H2 ⟨⟨x4, rfl⟩, ls, os, eL, eO, perm, hoi, b2, dr2⟩
        have hln := perm.length_eq
        rw [List.length_append, rgI_len] at hln
        obtain rfl : ls = [] := List.length_eq_zero_iff.mp (by omega)
        rw [List.append_nil] at perm
        exact ⟨⟨x4, rfl⟩, os, eO, perm, b2, dr2⟩
    · rintro σ' H2 ⟨⟨x4, rfl⟩, os, eO, perm, b2, dr2⟩
      exact ⟨_, rfl, q H2 O os _ b2 dr2 (by omega) perm nO0 eO⟩
theorem b_lo (T : Tx K mg A) : L2.Binds K A.d__law_order ["draw", "many"] [] := T.F__law_order.binds fun _ _ _ _ _ _ us hl => match us, hl with | [_, _], _ => rfl
theorem rgI_mem {n : Nat} {x : Int} (h : x ∈ rgI n) : 0 ≤ x ∧ x < n := by
  unfold rgI at h
  obtain ⟨i, hi, rfl⟩ := List.mem_map.mp h
  have := List.mem_range.mp hi
  omega
theorem heap_fault {n w : Nat} {ks : List Int} (hl : ks.length = n) (h : HeapL n w ks) : faultL ks w = [] := by
  refine List.eq_nil_iff_forall_not_mem.mpr fun p hp => ?_
  unfold faultL at hp
  obtain ⟨h1, h2⟩ := List.mem_filter.mp hp
  unfold faultB at h2
  obtain ⟨h3, h4⟩ := Bool.and_eq_true_iff.mp h2
  have h1 := List.mem_range.mp h1
  have h3 := of_decide_eq_true h3
  have h4 := of_decide_eq_true h4
  have := h p (by omega) (by omega)
  unfold keyAt at this
  omega
theorem good_heapL {n w : Nat} {ks : List Int} (h : GoodFrom n w ks 0) : HeapL n w ks := fun c h1 h2 =>
  h ((c - 1) / w) (Nat.zero_le _) (by have := par_lt (w := w) h1; omega) c (mem_kid.mpr ⟨h1, h2, rfl⟩)
theorem sorted_one {xs ys : List Int} (hp : xs.Perm ys) (h1 : xs.Pairwise (· ≤ ·)) (h2 : ys.Pairwise (· ≤ ·)) : xs = ys := List.Perm.eq_of_pairwise (fun x y _ _ h1 h2 => Int.le_antisymm h1 h2) h1 h2 hp
def spBq (C : Addr) : Sp := fun vs H Q _ => ∃ (p ch lk : Nat) (ks : List Int) (ps : List (Int × Int)) (y : V), vs = [.ref p, y] ∧ BuiltAt C H p ks ps ch lk ∧
  ((∃ (p2 ch2 lk2 : Nat) (ks2 : List Int) (ps2 : List (Int × Int)), y = .ref p2 ∧ BuiltAt C H p2 ks2 ps2 ch2 lk2 ∧ Q (.bl (decide (ks = ks2 ∧ ps = ps2 ∧ ch = ch2 ∧ lk = lk2))) H) ∨ (∃ (t : Addr) (xs : List V), y = .ref t ∧ H t = some (.tup xs) ∧ Q (.bl false) H))
theorem bq_of {C : Addr} {H : Hp} {p p2 ch lk ch2 lk2 : Nat} {ks ks2 : List Int} {ps ps2 : List (Int × Int)} {Q : VK} {E : XK} {b : Bool} (h1 : BuiltAt C H p ks ps ch lk) (h2 : BuiltAt C H p2 ks2 ps2 ch2 lk2) (hb : decide (ks = ks2 ∧ ps = ps2 ∧ ch = ch2 ∧ lk = lk2) = b) (q : Q (.bl b) H) : spBq C [.ref p, .ref p2] H Q E :=
  ⟨p, ch, lk, ks, ps, .ref p2, rfl, h1, .inl ⟨p2, ch2, lk2, ks2, ps2, rfl, h2, by rw [hb]; exact q⟩⟩
/-- the data of (row, stops, changes, looks) -/
def quadD (st : BSt) : PyData := .tuple [.tuple (st.1.map PyData.int), .tuple (st.2.1.map prP), .int (st.2.2.1 : Nat), .int (st.2.2.2 : Nat)]
theorem quadD_at (K : PySem.W.Frag) {H : Hp} {t t1 t2 : Addr} {st : BSt} {xs : List V} (h : H t = some (.tup [.ref t1, .ref t2, .int (st.2.2.1 : Nat), .int (st.2.2.2 : Nat)])) (h1 : H t1 = some (.tup (st.1.map V.int))) (h2 : H t2 = some (.tup xs)) (h3 : PrsAt H xs st.2.1) : Dp K H (.ref t) (quadD st) :=
  .tup (SqT.of h) (.cons (ints_tup K h1) (.cons (prT_dp K h2 h3) (.cons (.int _) (.cons (.int _) .nil))))
end
end Tw

set_option Elab.async false
set_option linter.all false
set_option maxRecDepth 100000
set_option maxHeartbeats 2000000
namespace Tw
open PySem PySem.Spec PyProof.Rows L2
section
variable {P : Program} {w : World} {K : PySem.W.Frag} {mg : Str → Option Value} {base : Heap} {A : Ad}
open LamX (ExtN Tabs TabS)
/-! keys and stops as the law draws them -/
theorem PrsAt.but {H H' : Hp} {d : Addr} {zs xs : List V} {ps : List (Int × Int)} (h : PrsAt H xs ps) (hd : H d = some (.lst zs)) (b : But d H H') : PrsAt H' xs ps := L2.Paired.mapP h fun _ _ ⟨t, q, z⟩ => ⟨t, q, b _ _ (ne_of z hd (by intro y; cases y)) z⟩
theorem But.free {d D : Addr} {H H' : Hp} {o : HO} (b : But d H H') (l : H' d = some o) (n : H' D = none) : H D = none := by
  cases e : H D with
  | none => rfl
  | some u =>
    by_cases h : D = d
    · rw [h, l] at n
      cases n
    · rw [b _ _ h e] at n
      cases n
theorem rgI_nodup (n : Nat) : (rgI n).Nodup := by
  unfold rgI
  refine List.nodup_iff_pairwise_ne.mpr (List.pairwise_map.mpr ((List.nodup_iff_pairwise_ne.mp List.nodup_range).imp fun h z => h (by omega)))
def spLun (K : PySem.W.Frag) : Sp := fun vs H Q _ => ∃ (d a : Addr) (ns : List Int) (k n : Nat), vs = [.ref d, .int n] ∧ DrAt K H d a ns k ∧ k < 40000 ∧ n ≤ 12 ∧
  ∀ (H' : Hp) (q : Addr) (ks : List Int) (k' : Nat), But d H H' → DrAt K H' d a ns k' → k' ≤ k + 14 → ks.length = n → ks.Nodup → (∀ z ∈ ks, -1000 ≤ z ∧ z ≤ 1000) → H q = none → H' q = some (.lst (ks.map V.int)) → Q (.ref q) H'
theorem ok_lun (T : Tx K mg A) : FnOk P w K mg base CX0 6 A.f__law_unlike A.d__law_unlike ["draw", "many"] (spLun K) := by
  refine T.F__law_unlike.ok sc__law_unlike (fun vs H Q E h => ?_) (fun cdv B outer s H vs Q E hr h => ?_)
  · obtain ⟨d, a, ns, k, n, rfl, _⟩ := h
    rfl
  · obtain ⟨d, a, ns, k, n, rfl, dr, hk, hn, q⟩ := h
    have nd := sc__law_unlike.nd
    refine ⟨_, (pss_cons (ps_asg (pe_tup (pa_cons (pe_op op_sub (pe_call (ok_take T) (hr.mono (by decide)) (by rfl) T.m__law_take T.F__law_take.kp (b_take T) .nil pass0 (pa_cons (pv 0) (pa_cons pe_int pa_nil))) pe_int) (pa_cons (pe_op op_add pe_int (pe_call (ok_take T) (hr.mono (by decide)) (by rfl) T.m__law_take T.F__law_take.kp (b_take T) .nil pass0 (pa_cons (pv 0) (pa_cons pe_int pa_nil)))) pa_nil))) (pg_tup rfl (pgs_cons (pg_name (i := 2) nd rfl (Or.inr rfl)) (pgs_cons (pg_name (i := 3) nd rfl (Or.inr rfl)) pgs_nil))))
      (pss_one (ps_ret (pe_lc (own := [("number", 4)]) (g := gName 4) (tt := tYes) rfl nd (pi_list (pe_call (ok_lo T) (hr.mono (by decide)) (by rfl) T.m__law_order T.F__law_order.kp (b_lo T) .nil pass0 (pa_cons (pv 0) (pa_cons (pv 1) pa_nil)))) (blkOk_by (own := [("number", 4)]) (N := ["draw", "many", "low", "step", "number"]) (sc := (defScope s__law_unlike)) (by decide +kernel)) (fun _ _ _ _ _ => pg_name (i := 4) nd rfl (Or.inl rfl)) (fun _ _ _ _ _ => pts_nil) (fun _ _ _ _ _ => (pe_op op_add (pv 2) (pe_op op_mul (pv 3) (pv 4)))))))), ?_⟩
    refine ⟨_, rfl, d, a, ns, k, 50, rfl, dr, by omega, by decide, fun H1 r1 b1 dr1 h1 => ⟨_, _, rfl, rfl, ?_⟩⟩
    refine ⟨_, rfl, d, a, ns, k + 1, 5, rfl, dr1, by omega, by decide, fun H2 r2 b2 dr2 h2 => ⟨_, _, rfl, rfl, by show 2 ≤ sizeLine; decide, fun t nt => ?_⟩⟩
    refine ⟨_, _, rfl, SqT.of upd_same, rfl, _, _, rfl, _, _, rfl, rfl, ?_⟩
    have s3 := Same.up (o := .tup [V.int ((r1 : Nat) - 25), V.int (1 + (r2 : Nat))]) nt
    have dr3 := dr2.same s3
    have b3 := (b1.trans b2).trans (But.of s3)
    generalize upd H2 t (.tup [V.int ((r1 : Nat) - 25), V.int (1 + (r2 : Nat))]) = H3 at s3 dr3 b3
    refine ⟨_, rfl, _, rfl, d, a, ns, k + 1 + 1, n, rfl, dr3, by omega, hn, fun H4 c os k' b4 dr4 hk' perm nc ec => ?_⟩
    have hol : os.length = n := perm.length_eq.trans (rgI_len n)
    have hob : ∀ z ∈ os, 0 ≤ z ∧ z < n := fun z hz => rgI_mem (perm.mem_iff.mp hz)
    have hod : os.Nodup := perm.nodup_iff.mpr (rgI_nodup n)
    refine ⟨c, rfl, ⟨_, SqL.of ec⟩, fun D nD => ?_⟩
    refine lc_it (walk_list (xs := os.map V.int)) (fun i H' => Acc H4 D (((os.take i).map fun z => ((r1 : Nat) - 25 : Int) + (1 + (r2 : Nat)) * z).map V.int) H') (by rw [List.take_zero]; exact Acc.start nD) (fun i H' _ ac => SqL.of (ac.s _ _ ec)) ?_ ?_
    · rintro i x H5 H6 hi ac ⟨rfl, hx⟩
      obtain ⟨hi2, rfl⟩ := ints_at hx
      have hz := hob _ (List.getElem_mem hi2)
      refine ⟨rfl, iteT (B := Acc H4 D (((os.take (i + 1)).map fun z => ((r1 : Nat) - 25 : Int) + (1 + (r2 : Nat)) * z).map V.int) H6) ?_⟩
      refine ⟨_, rfl, _, rfl, _, rfl, _, _, rfl, rfl, .inl ⟨by omega, by omega⟩, _, _, rfl, rfl, _, ac.a, small1000 (by rw [List.length_map, List.length_map, List.length_take]; omega), ?_⟩
      rw [← List.take_append_getElem hi2, List.map_append, List.map_append]
      exact ac.push
    · intro H5 ac
      rw [List.length_map, List.take_length] at ac
      refine q H5 D _ k' ((b3.trans b4).trans (But.of ac.s)) (dr4.same ac.s) (by omega) (by rw [List.length_map, hol]) ?_ ?_ ?_ ac.a
      · refine List.nodup_iff_pairwise_ne.mpr (List.pairwise_map.mpr ((List.nodup_iff_pairwise_ne.mp hod).imp fun {x y} h z => h ?_))
        have e : (1 + (r2 : Int)) * x = (1 + (r2 : Int)) * y := by omega
        exact Int.eq_of_mul_eq_mul_left (by omega) e
      · intro z hz
        obtain ⟨y, hy, rfl⟩ := List.mem_map.mp hz
        obtain ⟨y1, y2⟩ := hob y hy
        have m1 : (1 + (r2 : Int)) * y ≤ 5 * y := Int.mul_le_mul_of_nonneg_right (by omega) y1
        have m2 : 0 ≤ (1 + (r2 : Int)) * y := Int.mul_nonneg (by omega) y1
        omega
      · exact But.free (b3.trans b4) dr4.l nD
theorem b_lun (T : Tx K mg A) : L2.Binds K A.d__law_unlike ["draw", "many"] [] := T.F__law_unlike.binds fun _ _ _ _ _ _ us hl => match us, hl with | [_, _], _ => rfl
theorem stp_congr {n w : Nat} {f g : Nat → Nat} : ∀ i, i ≤ n → (∀ p, p < n → n - i ≤ p → f p = g p) → stpL n w f i = stpL n w g i
  | 0, _, _ => rfl
  | i + 1, hi, h => by
    rw [stp_succ, stp_succ, stp_congr i (by omega) (fun p h1 h2 => h p h1 (by omega)), h (n - 1 - i) (by omega) (by omega)]
def spLst (K : PySem.W.Frag) : Sp := fun vs H Q _ => ∃ (d a : Addr) (ns : List Int) (k w n : Nat), vs = [.ref d, .int w, .int n] ∧ DrAt K H d a ns k ∧ k < 40000 ∧ (1 ≤ w ∧ w ≤ 4) ∧ n ≤ 12 ∧
  ∀ (H' : Hp) (t : Addr) (xs : List V) (f : Nat → Nat) (k' : Nat), But d H H' → DrAt K H' d a ns k' → k' ≤ k + 12 → StOk n w f → H' t = some (.tup xs) → PrsAt H' xs (stpL n w f n) → Q (.ref t) H'
theorem ok_lst (T : Tx K mg A) : FnOk P w K mg base CX0 6 A.f__law_stops A.d__law_stops ["draw", "wide", "many"] (spLst K) := by
  refine T.F__law_stops.ok sc__law_stops (fun vs H Q E h => ?_) (fun cdv B outer s H vs Q E hr h => ?_)
  · obtain ⟨d, a, ns, k, w, n, rfl, _⟩ := h
    rfl
  · obtain ⟨d, a, ns, k, w, n, rfl, dr, hk, hw, hn, q⟩ := h
    have nd := sc__law_stops.nd
    have hu := hr.units
    refine ⟨_, (pss_cons (ps_set (i := 3) nd rfl (Or.inl rfl) (pe_lst pa_nil))
      (C8.pss_cut (ps_for PassesOwn.never rfl (pi_list (pe_revL (pe_listRg rfl (by rfl) T.g_list (prg_1 (by rfl) T.g_range (pv 2))))) (pg_name (i := 4) nd rfl (Or.inl rfl)) (pss_one (ps_if (pt_cmpR (op_neD hu) (pe_call (ok_lkid T) (hr.mono (by decide)) (by rfl) T.m__law_children T.F__law_children.kp (b_lkid T) .nil pass0 (pa_cons (pv 1) (pa_cons (pv 2) (pa_cons (pv 4) pa_nil)))) (pe_lst pa_nil) (nomark _)) (pss_one (ps_expr (pe_bm PySem.F.plainAttrs_list PySem.F.slot_list_append PySem.F.type_list_append mt_append (pv 3) (pa_cons (pe_tup (pa_cons (pv 4) (pa_cons (pe_call (ok_pick T) (hr.mono (by decide)) (by rfl) T.m__law_pick T.F__law_pick.kp (b_pick T) .nil pass0 (pa_cons (pv 0) (pa_cons (pe_call (ok_lsub T) (hr.mono (by decide)) (by rfl) T.m__law_subtree T.F__law_subtree.kp (b_lsub T) .nil pass0 (pa_cons (pv 1) (pa_cons (pv 2) (pa_cons (pv 4) pa_nil)))) pa_nil))) pa_nil))) pa_nil)))) pss_nil)))
      (pss_one (ps_ret (pe_callTy call_tuple_of (by rfl) T.g_tuple (by decide +kernel) (pa_cons (pv 3) pa_nil)))))), ?_⟩
    refine ⟨Nat.zero_le _, fun D nD => ?_⟩
    have s1 := Same.up (o := .lst []) nD
    have eD := upd_same (H := H) (a := D) (o := .lst [])
    generalize upd H D (.lst []) = H1 at s1 eD
    have hDd : D ≠ d := fun z => by rw [z, dr.l] at nD; cases nD
    refine ⟨fun σ' H' => ∃ (x4 : Option V) (xs : List V) (f : Nat → Nat) (k' : Nat), σ' = [some (.ref d), some (.int w), some (.int n), some (.ref D), x4] ∧ H' D = some (.lst xs) ∧ PrsAt H' xs (stpL n w f n) ∧ But d H H' ∧ DrAt K H' d a ns k' ∧ k' ≤ k + n ∧ StOk n w f, ?_, ?_⟩
    · refine ⟨_, rfl, _, rfl, RgOk.of_le (by omega) (by omega) (by omega) (by omega), fun c1 nc1 => ?_⟩
      rw [rg_pl]
      refine ⟨c1, _, rfl, SqL.of upd_same, fun c nc => ?_⟩
      have s2 : Same H1 (upd (upd H1 c1 (.lst (pl n))) c (.lst (pl n).reverse)) := (Same.up nc1).trans (Same.up nc)
      have ec := upd_same (H := upd H1 c1 (.lst (pl n))) (a := c) (o := .lst (pl n).reverse)
      have nc0 : H c = none := s1.free ((Same.up nc1).free nc)
      have hcd : c ≠ d := fun z => by rw [z, dr.l] at nc0; cases nc0
      have hcD : c ≠ D := fun z => by have := (Same.up nc1).free nc; rw [z, eD] at this; cases this
      have dr2 := (dr.same s1).same s2
      have eD2 := s2 _ _ eD
      have s02 := s1.trans s2
      generalize upd (upd H1 c1 (.lst (pl n))) c (.lst (pl n).reverse) = H2 at s02 ec dr2 eD2
      refine ⟨c, rfl, ⟨_, SqL.of ec⟩, for_list (K := K) (a := c) (xs := (pl n).reverse) (fun i σ' H' => ∃ (x4 : Option V) (xs : List V) (f : Nat → Nat) (k' : Nat), σ' = [some (.ref d), some (.int w), some (.int n), some (.ref D), x4] ∧ H' D = some (.lst xs) ∧ PrsAt H' xs (stpL n w f i) ∧ But d H H' ∧ DrAt K H' d a ns k' ∧ k' ≤ k + i ∧
        H' c = some (.lst (pl n).reverse) ∧ (∀ p, p < n → n - i ≤ p → kidL n w p ≠ [] → f p ∈ subL n w p) ∧ i ≤ n) ⟨none, [], fun _ => 0, k, rfl, eD2, .nil, But.of s02, dr2, by omega, ec, fun p h1 h2 => absurd h2 (by omega), Nat.zero_le _⟩ (fun i σ' H' _ ⟨_, _, _, _, _, _, _, _, _, _, h, _⟩ => SqL.of h) ?_ ?_⟩
      · rintro i x σ' H' hx ⟨x4, xs, f, k', rfl, eD3, hps, b3, dr3, hk3, ec3, hf, _⟩
        obtain ⟨hi, rfl⟩ := rev_pl hx
        have hpn : n - 1 - i < n := by omega
        have xl : xs.length ≤ 12 := by
          have := Paired.length hps
          have h2 := plS_len n w i
          have h3 : (stpL n w f i).length = (plS n w i).length := by rw [stp_pl, List.length_map]
          omega
        refine ⟨_, rfl, _, rfl, _, rfl, w, n, n - 1 - i, rfl, hw, hn, hpn, fun H5 b s5 b0 hb => ?_⟩
        refine ⟨Nat.zero_le _, fun e0 ne0 => ?_⟩
        have s6 := s5.trans (Same.up (o := .lst []) ne0)
        have he0 : upd H5 e0 (.lst []) e0 = some (.lst (vi [])) := upd_same
        have hb6 := (Same.up (o := .lst []) ne0) _ _ hb
        generalize upd H5 e0 (.lst []) = H6 at s6 hb6 he0
        refine ⟨_, _, dp_lst _ hb6, dp_lst _ he0, dl_shapedL _, dl_shapedL _, _, rfl, ?_⟩
        rw [dl_emp]
        by_cases h0 : kidL n w (n - 1 - i) = []
        · rw [decide_eq_true h0]
          refine iteF ⟨_, xs, f, k', rfl, s6 _ _ eD3, ?_, b3.trans (But.of s6), dr3.same s6, by omega, s6 _ _ ec3, fun p h1 h2 h3 => ?_, by omega⟩
          · rw [stp_succ, if_pos h0]
            exact hps.same s6
          · by_cases e : p = n - 1 - i
            · exact absurd (e ▸ h0) h3
            · exact hf p h1 (by omega) h3
        · rw [decide_eq_false h0]
          have hpos : 0 < (subL n w (n - 1 - i)).length := List.length_pos_of_mem (List.mem_filter.mpr ⟨List.mem_range.mpr hpn, decide_eq_true (self_sub w (by omega) (n - 1 - i) (by omega) hw.1)⟩)
          refine iteT ⟨_, rfl, .inl ⟨rfl, _, SqL.of (s6 _ _ eD3)⟩, _, rfl, _, rfl, _, rfl, _, rfl, _, rfl, w, n, n - 1 - i, rfl, hw, hn, hpn, fun H7 g s7 ng eg => ?_⟩
          have s67 := s6.trans s7
          have dr7 := dr3.same s67
          have hgd : g ≠ d := fun z => by rw [z, (dr3.same s6).l] at ng; cases ng
          rw [vi_wz] at eg
          refine ⟨d, a, g, ns, wz (subL n w (n - 1 - i)), k', rfl, dr7, by omega, eg, hgd, by unfold wz; rw [List.length_map]; exact hpos, fun H8 z b8 dr8 hz => ?_⟩
          obtain ⟨st, hst, rfl⟩ := List.mem_map.mp hz
          refine ⟨by show 2 ≤ sizeLine; decide, fun t nt => ?_⟩
          have s9 := Same.up (o := .tup [V.int ((n - 1 - i : Nat) : Int), V.int ((st : Nat) : Int)]) nt
          have et := upd_same (H := H8) (a := t) (o := .tup [V.int ((n - 1 - i : Nat) : Int), V.int ((st : Nat) : Int)])
          have b9 := (b3.trans (But.of s67)).trans (b8.trans (But.of s9))
          have dr9 := dr8.same s9
          have eD9 := s9 _ _ (b8 _ _ hDd (s67 _ _ eD3))
          have ec9 := s9 _ _ (b8 _ _ hcd (s67 _ _ ec3))
          have hp9 := (((hps.same s67).but dr7.l b8).same s9).push (x := .ref t) (p := (((n - 1 - i : Nat) : Int), ((st : Nat) : Int))) ⟨t, rfl, et⟩
          generalize upd H8 t (.tup [V.int ((n - 1 - i : Nat) : Int), V.int ((st : Nat) : Int)]) = H9 at b9 dr9 eD9 ec9 hp9
          refine ⟨D, _, _, rfl, rfl, eD9, small1000 (by omega), ?_⟩
          have eq1 : stpL n w (fun q => if q = n - 1 - i then st else f q) (i + 1) = stpL n w f i ++ [(((n - 1 - i : Nat) : Int), ((st : Nat) : Int))] := by
            rw [stp_succ, if_neg h0, if_pos rfl, stp_congr i (by omega) (fun p h1 h2 => by rw [if_neg (by omega)])]
          have bD : But d H (upd H9 D (.lst (xs ++ [.ref t]))) := fun b o hb e => by
            rw [upd_ne (ne_of_none e nD)]
            exact b9 b o hb e
          refine ⟨_, xs ++ [.ref t], fun q => if q = n - 1 - i then st else f q, k' + 1, rfl, upd_same, ?_, bD, ⟨by rw [upd_ne hDd.symm]; exact dr9.l, dr.n, bD.seq dr.s dr.n, dr.h⟩, by omega, ?_, fun p h1 h2 h3 => ?_, by omega⟩
          · rw [eq1]
            exact hp9.put eD9
          · rw [upd_ne hcD]
            exact ec9
          · by_cases e : p = n - 1 - i
            · subst e
              show (if n - 1 - i = n - 1 - i then st else _) ∈ _
              rw [if_pos rfl]
              exact hst
            · show (if p = n - 1 - i then st else f p) ∈ _
              rw [if_neg e]
              exact hf p h1 (by omega) h3
      · rintro σ' H' ⟨x4, xs, f, k', rfl, eD3, hps, b3, dr3, hk3, ec3, hf, _⟩
        rw [List.length_reverse, pl_len] at hps hk3 hf
        exact ⟨x4, xs, f, k', rfl, eD3, hps, b3, dr3, hk3, fun p h1 h2 => hf p h1 (by omega) h2⟩
    · rintro σ' H2 ⟨x4, xs, f, k', rfl, eD2, hps, b2, dr2, hk2, hf⟩
      refine ⟨_, rfl, D, _, rfl, .inl ⟨SqL.of eD2, fun t nt => ?_⟩⟩
      have s3 := Same.up (o := .tup xs) nt
      exact q _ t xs f k' (b2.trans (But.of s3)) (dr2.same s3) (by omega) hf upd_same (hps.same s3)
theorem b_lst (T : Tx K mg A) : L2.Binds K A.d__law_stops ["draw", "wide", "many"] [] := T.F__law_stops.binds fun _ _ _ _ _ _ us hl => match us, hl with | [_, _, _], _ => rfl

end
end Tw

set_option Elab.async false
set_option linter.all false
set_option maxRecDepth 100000
set_option maxHeartbeats 2000000
namespace Tw
open PySem PySem.Spec PyProof.Rows L2
section
variable {P : Program} {w : World} {K : PySem.W.Frag} {mg : Str → Option Value} {base : Heap} {A : Ad}
open LamX (ExtN Tabs TabS)
/-! the law -/
def pairD (ks : List Int) (ps : List (Int × Int)) : PyData := .tuple [.tuple (ks.map PyData.int), .tuple (ps.map prP)]
theorem pairD_shaped (ks : List Int) (ps : List (Int × Int)) : SeqAt.shaped (pairD ks ps) = true := by
  have a := ints_deep ks
  have b := prPs_deep ps
  unfold SeqAt.shaped pairD
  rw [Bool.and_eq_true]
  refine ⟨?_, decide_eq_true ?_⟩
  · simp only [PyData.canLay0, PyData.canLayAll0, ints_lay, prPs_lay, Bool.and_true, Bool.true_and]
  · simp only [PyData.depth, PyData.depthAll]
    omega
theorem pair_dp {H : Hp} {t t1 t2 : Addr} {ks : List Int} {ps : List (Int × Int)} {xs : List V} (h : SqT K H t [.ref t1, .ref t2]) (h1 : H t1 = some (.tup (ks.map V.int))) (h2 : H t2 = some (.tup xs)) (h3 : PrsAt H xs ps) : Dp K H (.ref t) (pairD ks ps) :=
  .tup h (.cons (ints_tup K h1) (.cons (prT_dp K h2 h3) .nil))
theorem code_dp {H : Hp} {q : Addr} {ks : List Int} {ps : List (Int × Int)} (h : CodeAt H q ks ps) : Dp K H (.ref q) (pairD ks ps) := let ⟨_, _, _, a, b, c, d⟩ := h; pair_dp (SqT.of a) b c d
theorem BDueAt.ext {H H' : Hp} {d : Addr} {st : BSt} (h : BDueAt H d st) (e : ExtN H H') : BDueAt H' d st :=
  let ⟨t1, t2, xs, a, b, c, z⟩ := h; ⟨t1, t2, xs, e _ _ a (fun _ y => nomatch y), e _ _ b (fun _ y => nomatch y), e _ _ c (fun _ y => nomatch y), z.ext e⟩
theorem heap_good {n w : Nat} {ms : List Int} (h : HeapL n w ms) : GoodFrom n w ms 0 := fun p _ hp c hc => by
  obtain ⟨c1, c2, c3⟩ := mem_kid.mp hc
  have := h c c1 c2
  rw [c3] at this
  exact this
structure La (K : PySem.W.Frag) (A : Ad) (d a q5 : Addr) (ns ks : List Int) (k : Nat) (H : Hp) : Prop where
  dr : DrAt K H d a ns k
  t : Tabs (TT A) H
  row : H q5 = some (.lst (ks.map V.int))
theorem La.ext {K : PySem.W.Frag} {A : Ad} {d a q5 : Addr} {ns ks : List Int} {k : Nat} {H H' : Hp} (h : La K A d a q5 ns ks k H) (e : ExtN H H') (t : Tabs (TT A) H') : La K A d a q5 ns ks k H' := ⟨h.dr.ext e, t, e _ _ h.row (fun _ z => nomatch z)⟩
theorem La.same {K : PySem.W.Frag} {A : Ad} {d a q5 : Addr} {ns ks : List Int} {k : Nat} {H H' : Hp} (h : La K A d a q5 ns ks k H) (s : Same H H') : La K A d a q5 ns ks k H' := h.ext (extN_of s) (h.t.ext s)
structure Lc (K : PySem.W.Frag) (A : Ad) (d a q5 t7 t8 : Addr) (xs : List V) (ps : List (Int × Int)) (ns ks ms : List Int) (k : Nat) (H : Hp) : Prop where
  la : La K A d a q5 ns ks k H
  h7 : H t7 = some (.tup (ms.map V.int))
  h8 : H t8 = some (.tup xs)
  p8 : PrsAt H xs ps
theorem Lc.ext {K : PySem.W.Frag} {A : Ad} {d a q5 t7 t8 : Addr} {xs : List V} {ps : List (Int × Int)} {ns ks ms : List Int} {k : Nat} {H H' : Hp} (h : Lc K A d a q5 t7 t8 xs ps ns ks ms k H) (e : ExtN H H') (t : Tabs (TT A) H') : Lc K A d a q5 t7 t8 xs ps ns ks ms k H' :=
  ⟨h.la.ext e t, e _ _ h.h7 (fun _ z => nomatch z), e _ _ h.h8 (fun _ z => nomatch z), h.p8.ext e⟩
theorem Lc.same {K : PySem.W.Frag} {A : Ad} {d a q5 t7 t8 : Addr} {xs : List V} {ps : List (Int × Int)} {ns ks ms : List Int} {k : Nat} {H H' : Hp} (h : Lc K A d a q5 t7 t8 xs ps ns ks ms k H) (s : Same H H') : Lc K A d a q5 t7 t8 xs ps ns ks ms k H' := h.ext (extN_of s) (h.la.t.ext s)
def spLaw (K : PySem.W.Frag) (A : Ad) : Sp := fun vs H Q _ => ∃ (a : Addr) (ns : List Int), vs = [.ref a] ∧ SqL K H a (ns.map V.int) ∧ ns.length ≤ 63 ∧ Tabs (TT A) H ∧ ∀ H', Q (.bl true) H'
theorem ok_law (T : Tx K mg A) (TB : LamX.TabB base mg A.c_least_child A.P_least_child) : FnOk P w K mg base CX0 12 A.f_law A.d_law ["script"] (spLaw K A) := by
  obtain ⟨mc, kc⟩ := kb_code T
  obtain ⟨md, kd⟩ := kb_dec T
  obtain ⟨dc, rc, bc⟩ := bd_code T
  obtain ⟨dd, rd, bd⟩ := bd_dec T
  refine T.F_law.ok sc_law (fun vs H Q E h => ?_) (fun cdv B outer s H vs Q E hr h => ?_)
  · obtain ⟨a, ns, rfl, _⟩ := h
    rfl
  · obtain ⟨a, ns, rfl, ha, hl, hT, q⟩ := h
    have nd := sc_law.nd
    have hu := hr.units
    refine ⟨_, (pss_cons (ps_set (i := 1) nd rfl (Or.inl rfl) (pe_lst (pa_cons (pv 0) (pa_cons pe_int pa_nil))))
      (pss_cons (ps_for PassesOwn.never rfl (pi_range1 rfl T.g_range (pa_cons pe_int pa_nil)) (pg_name (i := 2) nd rfl (Or.inl rfl)) (C8.pss_cut (ps_par (i := 3) (j := 4) rfl nd rfl rfl (by decide) rfl rfl (pa_cons (pe_call (ok_arm T) (hr.mono (by decide)) (by rfl) T.m__law_arms T.F__law_arms.kp (b_arm T) .nil pass0 (pa_cons (pv 1) pa_nil)) (pa_cons (pe_call (ok_take T) (hr.mono (by decide)) (by rfl) T.m__law_take T.F__law_take.kp (b_take T) .nil pass0 (pa_cons (pv 1) (pa_cons pe_int pa_nil))) pa_nil)) rfl)
      (C8.pss_cut (ps_set (i := 5) nd rfl (Or.inl rfl) (pe_call (ok_lun T) (hr.mono (by decide)) (by rfl) T.m__law_unlike T.F__law_unlike.kp (b_lun T) .nil pass0 (pa_cons (pv 1) (pa_cons (pv 4) pa_nil))))
      (C8.pss_cut (ps_set (i := 6) nd rfl (Or.inl rfl) (pe_call (ok_lbuilt T) (hr.mono (by decide)) (by rfl) T.m__law_built T.F__law_built.kp (b_lbuilt T) .nil pass0 (pa_cons (pv 5) (pa_cons (pv 3) pa_nil))))
      (C8.pss_cut (ps_if (pt_cmpR (op_neD hu) (pe_callN (ok_code T TB) (hr.mono (by decide)) (by rfl) T.m_code T.F_code.kp kc pass0 (pa_cons (pv 5) pa_nil) (pk_cons (pv 3) pk_nil)) (pe_slice (r := rSlS K) sl_tupS (pv 6) po_none (po_some pe_int)) (nomark _)) (pss_one (ps_ret pe_bl)) pss_nil)
      (C8.pss_cut (ps_if (pt_cmpR (op_neD hu) (pe_callN (ok_dec T) (hr.mono (by decide)) (by rfl) T.m_decode T.F_decode.kp kd pass0 (pa_cons (pe_ix (r := rIx K) ix_seq (pv 6) pe_int (fun _ _ => rfl)) (pa_cons (pe_ix (r := rIx K) ix_seq (pv 6) pe_int (fun _ _ => rfl)) pa_nil)) (pk_cons (pv 3) pk_nil)) (pe_callTy call_tuple_of (by rfl) T.g_tuple (by decide +kernel) (pa_cons (pv 5) pa_nil)) (nomark _)) (pss_one (ps_ret pe_bl)) pss_nil)
      (C8.pss_cut (ps_par (i := 7) (j := 8) rfl nd rfl rfl (by decide) rfl rfl (pa_cons (pe_callTy call_tuple_of (by rfl) T.g_tuple (by decide +kernel) (pa_cons (pe_call (ok_lh T) (hr.mono (by decide)) (by rfl) T.m__law_heap T.F__law_heap.kp (b_lh T) .nil pass0 (pa_cons (pv 5) (pa_cons (pv 3) pa_nil))) pa_nil)) (pa_cons (pe_call (ok_lst T) (hr.mono (by decide)) (by rfl) T.m__law_stops T.F__law_stops.kp (b_lst T) .nil pass0 (pa_cons (pv 1) (pa_cons (pv 3) (pa_cons (pv 4) pa_nil)))) pa_nil)) rfl)
      (C8.pss_cut (ps_set (i := 9) nd rfl (Or.inl rfl) (pe_callN (ok_dec T) (hr.mono (by decide)) (by rfl) T.m_decode T.F_decode.kp kd pass0 (pa_cons (pv 7) (pa_cons (pe_callTy call_list_of (by rfl) T.g_list (by decide +kernel) (pa_cons (pv 8) pa_nil)) pa_nil)) (pk_cons (pv 3) pk_nil)))
      (C8.pss_cut (ps_if (PW.pt (pw_or (pt_not (pt_val (pe_callB call_isi (by rfl) T.g_isinstance (by decide +kernel) (pa_cons (pv 9) (pa_cons (pe_bltn (v := .ty "tuple") (by rfl) T.g_tuple (by decide +kernel) rfl) pa_nil))))) (pw_or1 (pt_cmpR (op_neD hu) (pe_callB cr_sortedTu (by rfl) T.g_sorted (by decide +kernel) (pa_cons (pv 9) pa_nil)) (pe_callB cr_sortedI (by rfl) T.g_sorted (by decide +kernel) (pa_cons (pv 5) pa_nil)) (nomark _))))) (pss_one (ps_ret pe_bl)) pss_nil)
      (C8.pss_cut (ps_if (pt_cmpR (op_neD hu) (pe_slice (r := rSlS K) sl_tupS (pe_call (ok_lbuilt T) (hr.mono (by decide)) (by rfl) T.m__law_built T.F__law_built.kp (b_lbuilt T) .nil pass0 (pa_cons (pv 9) (pa_cons (pv 3) pa_nil))) po_none (po_some pe_int)) (pe_tup (pa_cons (pv 7) (pa_cons (pv 8) pa_nil))) (nomark _)) (pss_one (ps_ret pe_bl)) pss_nil)
      (C8.pss_cut (ps_if (pt_cmpR (op_neD hu) (pe_callN (ok_code T TB) (hr.mono (by decide)) (by rfl) T.m_code T.F_code.kp kc pass0 (pa_cons (pv 9) pa_nil) (pk_cons (pv 3) pk_nil)) (pe_tup (pa_cons (pv 7) (pa_cons (pv 8) pa_nil))) (nomark _)) (pss_one (ps_ret pe_bl)) pss_nil)
      (C8.pss_cut (ps_if (PW.pt (pw_and (pt_cmpR op_eq (pv 3) pe_int (nomark _)) (pw_and1 (pt_cmpR (op_neD hu) (pe_call (ok_code T TB) (hr.mono (by decide)) (by rfl) T.m_code T.F_code.kp bc rc pass0 (pa_cons (pv 9) pa_nil)) (pe_tup (pa_cons (pv 7) (pa_cons (pv 8) pa_nil))) (nomark _))))) (pss_one (ps_ret pe_bl)) pss_nil)
      (pss_one (ps_if (PW.pt (pw_and (pt_cmpR op_eq (pv 3) pe_int (nomark _)) (pw_and1 (pt_cmpR (op_neD hu) (pe_call (ok_dec T) (hr.mono (by decide)) (by rfl) T.m_decode T.F_decode.kp bd rd pass0 (pa_cons (pe_callTy call_list_of (by rfl) T.g_list (by decide +kernel) (pa_cons (pv 7) pa_nil)) (pa_cons (pv 8) pa_nil))) (pv 9) (nomark _))))) (pss_one (ps_ret pe_bl)) pss_nil))))))))))))))
      (pss_one (ps_ret pe_bl)))), ?_⟩
    refine ⟨_, rfl, by show 2 ≤ sizeLine; decide, fun d hd => ?_⟩
    have dr0 : DrAt K _ d a ns 0 := DrAt.start ha hl hd
    have t0 : Tabs (TT A) (upd H d (.lst [.ref a, .int 0])) := hT.ext (Same.up hd)
    refine ⟨4, rfl, by decide, by decide, for_range (n := 4) (fun i σ H' => ∃ k x2 x3 x4 x5 x6 x7 x8 x9, σ = [some (.ref a), some (.ref d), x2, x3, x4, x5, x6, x7, x8, x9] ∧ DrAt K H' d a ns k ∧ Tabs (TT A) H' ∧ k ≤ 40 * i) ⟨0, none, none, none, none, none, none, none, none, rfl, dr0, t0, by omega⟩ ?_ ?_⟩
    · rintro i σ H1 hi ⟨k, x2, x3, x4, x5, x6, x7, x8, x9, rfl, dr1, t1, hk⟩
      generalize ex2 : some (V.int ((0 : Int) + (i : Nat))) = y2
      -- arms and a number
      refine ⟨fun σ' H' => ∃ (w n : Nat), σ' = [some (.ref a), some (.ref d), y2, some (.int w), some (.int n), x5, x6, x7, x8, x9] ∧ DrAt K H' d a ns (k + 2) ∧ Tabs (TT A) H' ∧ (1 ≤ w ∧ w ≤ 4) ∧ n ≤ 12, ?_, ?_⟩
      · subst ex2
        refine ⟨_, rfl, d, a, ns, k, rfl, dr1, by omega, fun H2 w b2 dr2 hw => ?_⟩
        have t2 := tabs_but t1 dr1.l b2
        refine ⟨_, rfl, d, a, ns, k + 1, 13, rfl, dr2, by omega, by decide, fun H3 n b3 dr3 hn => ?_⟩
        exact ⟨_, _, rfl, w, n, rfl, dr3, tabs_but t2 dr2.l b3, hw, by omega⟩
      rintro σ' H2 ⟨w, n, rfl, dr2, t2, hw, hn⟩
      -- the keys
      refine ⟨fun σ' H' => ∃ (q5 : Addr) (ks : List Int) (k' : Nat), σ' = [some (.ref a), some (.ref d), y2, some (.int w), some (.int n), some (.ref q5), x6, x7, x8, x9] ∧ La K A d a q5 ns ks k' H' ∧ k' ≤ k + 16 ∧ ks.length = n ∧ ks.Nodup ∧ (∀ z ∈ ks, -1000 ≤ z ∧ z ≤ 1000), ?_, ?_⟩
      · refine ⟨_, rfl, _, rfl, d, a, ns, k + 2, n, rfl, dr2, by omega, hn, fun H3 q5 ks k' b3 dr3 hk' hkl hkd hkb _ e5 => ?_⟩
        exact ⟨q5, ks, k', rfl, ⟨dr3, tabs_but t2 dr2.l b3, e5⟩, by omega, hkl, hkd, hkb⟩
      rintro σ' H3 ⟨q5, ks, k3, rfl, la3, hk3, hkl, hkd, hkb⟩
      clear dr1 dr2 t1 t2
      have hkb9 : ∀ z ∈ ks, -1000000000 ≤ z ∧ z ≤ 1000000000 := fun z hz => by have := hkb z hz; omega
      obtain ⟨st, est⟩ : ∃ st, st = bld n w ks n := ⟨_, rfl⟩
      have hperm : st.1.Perm ks := est ▸ bld_perm hw.1 hkl n (Nat.le_refl _)
      have hlen : st.1.length = n := by rw [hperm.length_eq, hkl]
      have hgood : GoodFrom n w st.1 0 := by
        have := bld_good hw.1 hn hkl n (Nat.le_refl _)
        rw [Nat.sub_self, ← est] at this
        exact this
      have hstp : st.2.1 = stpL n w (bldF n w ks) n := est ▸ bld_stp ks n (Nat.le_refl _)
      have hback : backL n w (bldF n w ks) st.1 n = ks := by
        rw [est, back_bld hw hn hkl n (Nat.le_refl _), Nat.sub_self]
        rfl
      -- built by the law
      refine ⟨fun σ' H' => ∃ e : Addr, σ' = [some (.ref a), some (.ref d), y2, some (.int w), some (.int n), some (.ref q5), some (.ref e), x7, x8, x9] ∧ La K A d a q5 ns ks k3 H' ∧ BDueAt H' e st, ?_, ?_⟩
      · refine ⟨_, rfl, _, rfl, q5, w, ks, rfl, hw, .inl la3.row, by omega, fun H4 e s4 be => ?_⟩
        rw [hkl, ← est] at be
        exact ⟨e, rfl, la3.same s4, be⟩
      rintro σ' H4 ⟨e, rfl, la4, be4⟩
      generalize eS : ([some (.ref a), some (.ref d), y2, some (.int w), some (.int n), some (.ref q5), some (.ref e), x7, x8, x9] : L2.St) = S0
      -- the code
      refine ⟨fun σ' H' => σ' = S0 ∧ La K A d a q5 ns ks k3 H' ∧ BDueAt H' e st, ?_, ?_⟩
      · subst eS
        refine ⟨_, rfl, _, rfl, rfl, rfl, q5, w, ks, rfl, hw, ⟨.inl la4.row, by omega, hkb9⟩, hkd, la4.t, fun H5 c e5 t5 hc => ?_⟩
        rw [hkl, ← est] at hc
        have la5 := la4.ext e5 t5
        have be5 := be4.ext e5
        obtain ⟨t1, t2, xs, g1, g2, g3, g4⟩ := id be5
        refine ⟨_, rfl, _, rfl, e, _, rfl, SqT.of g1, fun u H6 s6 eu => ?_⟩
        have eu : SqT K H6 u [.ref t1, .ref t2] := eu
        refine ⟨_, _, code_dp (hc.same s6), pair_dp eu (s6 _ _ g2) (s6 _ _ g3) (g4.same s6), pairD_shaped _ _, pairD_shaped _ _, _, rfl, ?_⟩
        rw [refl_of (pairD_shaped _ _)]
        exact iteF ⟨rfl, la5.same s6, be5.same s6⟩
      rintro σ' H5 ⟨eq, la5, be5⟩
      subst σ'
      -- and back
      refine ⟨fun σ' H' => σ' = S0 ∧ La K A d a q5 ns ks k3 H', ?_, ?_⟩
      · subst eS
        obtain ⟨t1, t2, xs, g1, g2, g3, g4⟩ := id be5
        have hfl : faultL st.1 w = [] := heap_fault hlen (good_heapL hgood)
        refine ⟨_, rfl, .inr (.inl ⟨e, _, _, _, rfl, rfl, SqT.of g1, rfl, ?_⟩)⟩
        refine ⟨_, rfl, .inr (.inl ⟨e, _, _, _, rfl, rfl, SqT.of g1, rfl, ?_⟩)⟩
        refine ⟨_, rfl, rfl, rfl, t1, t2, w, st.1, xs, bldF n w ks, rfl, hw, ⟨.inr g2, by omega, fun z hz => hkb9 z (hperm.mem_iff.mp hz)⟩, hfl, hperm.nodup_iff.mpr hkd, .inr g3, ?_, ?_, fun H6 v s6 ev => ?_⟩
        · rw [hlen, ← hstp]
          exact g4
        · rw [hlen]
          exact bldF_ok hw hn hkl
        · rw [hlen, hback] at ev
          refine ⟨_, rfl, q5, _, rfl, .inl ⟨SqL.of (s6 _ _ la5.row), fun t nt => ?_⟩⟩
          have s7 := Same.up (o := .tup (ks.map V.int)) nt
          refine ⟨_, _, ints_tup K (s7 _ _ ev), ints_tup K upd_same, ints_shT _, ints_shT _, _, rfl, ?_⟩
          rw [refl_of (ints_shT _)]
          exact iteF ⟨rfl, la5.same (s6.trans s7)⟩
      rintro σ' H6 ⟨eq, la6⟩
      subst σ'
      -- a heap and stops
      refine ⟨fun σ' H' => ∃ (t7 t8 : Addr) (ms : List Int) (xs : List V) (f : Nat → Nat) (k' : Nat), σ' = [some (.ref a), some (.ref d), y2, some (.int w), some (.int n), some (.ref q5), some (.ref e), some (.ref t7), some (.ref t8), x9] ∧ Lc K A d a q5 t7 t8 xs (stpL n w f n) ns ks ms k' H' ∧ k' ≤ k + 28 ∧ ms.Perm ks ∧ HeapL n w ms ∧ StOk n w f, ?_, ?_⟩
      · subst eS
        refine ⟨_, rfl, _, rfl, q5, w, ks, rfl, hw, la6.row, by omega, fun H7 h ms s7 hh hp _ eh => ?_⟩
        have hml : ms.length = n := by rw [hp.length_eq, hkl]
        rw [hml] at hh
        refine ⟨h, _, rfl, .inl ⟨SqL.of eh, fun t7 n7 => ?_⟩⟩
        have s8 := s7.trans (Same.up (o := .tup (ms.map V.int)) n7)
        have e7 := upd_same (H := H7) (a := t7) (o := .tup (ms.map V.int))
        generalize upd H7 t7 (.tup (ms.map V.int)) = H8 at s8 e7
        have la8 := la6.same s8
        refine ⟨_, rfl, _, rfl, _, rfl, d, a, ns, k3, w, n, rfl, la8.dr, by omega, hw, hn, fun H9 t8 xs f k' b9 dr9 hk' hf e8 hps => ?_⟩
        have n7d : t7 ≠ d := ne_of e7 la8.dr.l (by intro z; cases z)
        have n5d : q5 ≠ d := fun z => by
          have h1 := la8.row
          rw [z, la8.dr.l] at h1
          have h2 : ([V.ref a, V.int k3] : List V) = ks.map V.int := by injection h1 with h1; injection h1
          cases ks with
          | nil => cases h2
          | cons c cs => rw [List.map_cons] at h2; injection h2 with h2; cases h2
        exact ⟨_, _, rfl, t7, t8, ms, xs, f, k', rfl, ⟨⟨dr9, tabs_but la8.t la8.dr.l b9, b9 _ _ n5d la8.row⟩, b9 _ _ n7d e7, e8, hps⟩, by omega, hp, hh, hf⟩
      clear eS
      rintro σ' H7 ⟨t7, t8, ms, xs, f, k7, rfl, lc7, hk7, hmp, hmh, hf⟩
      have hml : ms.length = n := by rw [hmp.length_eq, hkl]
      have hmd : ms.Nodup := hmp.nodup_iff.mpr hkd
      have hmb : ∀ z ∈ ms, -1000000000 ≤ z ∧ z ≤ 1000000000 := fun z hz => hkb9 z (hmp.mem_iff.mp hz)
      have hmg := heap_good hmh
      have hmf : faultL ms w = [] := heap_fault hml hmh
      obtain ⟨rs, ers⟩ : ∃ rs, rs = backL n w f ms n := ⟨_, rfl⟩
      obtain ⟨hrl, hrp, _⟩ := back_ok hw hn hf hml hmg n (Nat.le_refl _)
      obtain ⟨hb1, hb2⟩ := bld_back hw hn hf hml hmd hmg n (Nat.le_refl _)
      rw [Nat.sub_self, ← ers] at hb1
      rw [← ers] at hb2 hrl hrp
      have hb1 : (bld n w rs n).1 = ms := hb1
      have hrd : rs.Nodup := hrp.nodup_iff.mpr hmd
      have hrb : ∀ z ∈ rs, -1000000000 ≤ z ∧ z ≤ 1000000000 := fun z hz => hmb z (hrp.mem_iff.mp hz)
      -- its row
      refine ⟨fun σ' H' => ∃ r9 : Addr, σ' = [some (.ref a), some (.ref d), y2, some (.int w), some (.int n), some (.ref q5), some (.ref e), some (.ref t7), some (.ref t8), some (.ref r9)] ∧ Lc K A d a q5 t7 t8 xs (stpL n w f n) ns ks ms k7 H' ∧ H' r9 = some (.tup (rs.map V.int)), ?_, ?_⟩
      · refine ⟨_, rfl, _, rfl, t8, _, rfl, .inr (SqT.of lc7.h8), fun D nD => ?_⟩
        have s8 := Same.up (o := .lst xs) nD
        have eD := upd_same (H := H7) (a := D) (o := .lst xs)
        generalize upd H7 D (.lst xs) = H8 at s8 eD
        have lc8 := lc7.same s8
        refine ⟨_, rfl, rfl, rfl, t7, D, w, ms, xs, f, rfl, hw, ⟨.inr lc8.h7, by omega, hmb⟩, hmf, hmd, .inl eD, by rw [hml]; exact lc8.p8, by rw [hml]; exact hf, fun H9 r9 s9 e9 => ?_⟩
        rw [hml, ← ers] at e9
        exact ⟨r9, rfl, lc8.same s9, e9⟩
      rintro σ' H8 ⟨r9, rfl, lc8, e8⟩
      generalize eS : ([some (.ref a), some (.ref d), y2, some (.int w), some (.int n), some (.ref q5), some (.ref e), some (.ref t7), some (.ref t8), some (.ref r9)] : L2.St) = S1
      -- of the same keys
      refine ⟨fun σ' H' => σ' = S1 ∧ Lc K A d a q5 t7 t8 xs (stpL n w f n) ns ks ms k7 H' ∧ H' r9 = some (.tup (rs.map V.int)), ?_, ?_⟩
      · subst eS
        refine ⟨_, rfl, _, _, .type "tuple", .type "tuple", true, rfl, .ty "tuple", .base (.tup e8), kit_ty (by decide +kernel), true, rfl, iteF ?_⟩
        refine ⟨_, rfl, r9, rs, rfl, SqT.of e8, fun n1 p1 perm1 srt1 np1 => ?_⟩
        have s1 := Same.up (o := .lst (n1.map V.int)) np1
        refine ⟨_, rfl, q5, ks, rfl, SqL.of (s1 _ _ lc8.la.row), fun n2 p2 perm2 srt2 np2 => ?_⟩
        have s2 := Same.up (o := .lst (n2.map V.int)) np2
        obtain rfl : n1 = n2 := sorted_one ((perm1.trans (hrp.trans hmp)).trans perm2.symm) srt1 srt2
        refine ⟨.list (n1.map PyData.int), .list (n1.map PyData.int), .lst (SqL.of (s2 _ _ upd_same)) (ints_dp _ _ _), .lst (SqL.of upd_same) (ints_dp _ _ _), shaped_ints _, shaped_ints _, _, rfl, ?_⟩
        rw [refl_of (shaped_ints _)]
        exact iteF ⟨rfl, lc8.same (s1.trans s2), (s1.trans s2) _ _ e8⟩
      rintro σ' H9 ⟨eq, lc9, e9⟩
      subst σ'
      -- built by the law
      refine ⟨fun σ' H' => σ' = S1 ∧ Lc K A d a q5 t7 t8 xs (stpL n w f n) ns ks ms k7 H' ∧ H' r9 = some (.tup (rs.map V.int)), ?_, ?_⟩
      · subst eS
        refine ⟨_, rfl, _, rfl, r9, w, rs, rfl, hw, .inr e9, by omega, fun G1 u s1 ⟨t1, t2, ys, g1, g2, g3, g4⟩ => ?_⟩
        rw [hrl] at g1 g2 g4
        rw [hb1] at g2
        rw [hb2] at g4
        refine ⟨_, rfl, u, _, rfl, SqT.of g1, fun v G2 s2 ev => ?_⟩
        have ev : SqT K G2 v [.ref t1, .ref t2] := ev
        have s12 := s1.trans s2
        have lcg := lc9.same s12
        refine ⟨_, rfl, _, rfl, by show 2 ≤ sizeLine; decide, fun t nt => ?_⟩
        have s3 := Same.up (o := .tup [.ref t7, .ref t8]) nt
        have lch := lcg.same s3
        refine ⟨_, _, pair_dp (SqT.sm s3 ev) (s3 _ _ (s2 _ _ g2)) (s3 _ _ (s2 _ _ g3)) ((g4.same s2).same s3), pair_dp (SqT.of upd_same) lch.h7 lch.h8 lch.p8, pairD_shaped _ _, pairD_shaped _ _, _, rfl, ?_⟩
        rw [refl_of (pairD_shaped _ _)]
        exact iteF ⟨rfl, lch, (s12.trans s3) _ _ e9⟩
      rintro σ' G1 ⟨eq, lg1, g9⟩
      subst σ'
      have codeE : ∀ (G2 : Hp) (c : Addr), CodeAt G2 c (bld rs.length w rs rs.length).1 (bld rs.length w rs rs.length).2.1 → CodeAt G2 c ms (stpL n w f n) := fun G2 c h => by
        rw [hrl, hb1, hb2] at h
        exact h
      refine ⟨fun σ' H' => σ' = S1 ∧ Lc K A d a q5 t7 t8 xs (stpL n w f n) ns ks ms k7 H' ∧ H' r9 = some (.tup (rs.map V.int)), ?_, ?_⟩
      · subst eS
        refine ⟨_, rfl, _, rfl, rfl, rfl, r9, w, rs, rfl, hw, ⟨.inr g9, by omega, hrb⟩, hrd, lg1.la.t, fun G2 c e2 t2 hc => ?_⟩
        have hc := codeE _ _ hc
        have lg2 := lg1.ext e2 t2
        refine ⟨_, rfl, _, rfl, by show 2 ≤ sizeLine; decide, fun t nt => ?_⟩
        have s3 := Same.up (o := .tup [.ref t7, .ref t8]) nt
        have lch := lg2.same s3
        refine ⟨_, _, code_dp (hc.same s3), pair_dp (SqT.of upd_same) lch.h7 lch.h8 lch.p8, pairD_shaped _ _, pairD_shaped _ _, _, rfl, ?_⟩
        rw [refl_of (pairD_shaped _ _)]
        exact iteF ⟨rfl, lch, s3 _ _ (e2 _ _ g9 (fun _ z => nomatch z))⟩
      rintro σ' G2 ⟨eq, lg2, g29⟩
      subst σ'
      refine ⟨fun σ' H' => σ' = S1 ∧ Lc K A d a q5 t7 t8 xs (stpL n w f n) ns ks ms k7 H' ∧ H' r9 = some (.tup (rs.map V.int)), ?_, ?_⟩
      · subst eS
        refine ⟨_, rfl, rfl, _, rfl, ?_⟩
        by_cases h2 : w = 2
        · rw [decide_eq_true (show V.int (w : Nat) = V.int 2 by rw [h2]; rfl)]
          have hw2 := hw
          refine iteT ⟨_, rfl, r9, 2, rs, rfl, by omega, ⟨.inr g29, by omega, hrb⟩, hrd, lg2.la.t, fun G3 c e2 t2 hc => ?_⟩
          rw [← h2] at hc
          have hc := codeE _ _ hc
          have lg3 := lg2.ext e2 t2
          refine ⟨_, rfl, _, rfl, by show 2 ≤ sizeLine; decide, fun t nt => ?_⟩
          have s3 := Same.up (o := .tup [.ref t7, .ref t8]) nt
          have lch := lg3.same s3
          refine ⟨_, _, code_dp (hc.same s3), pair_dp (SqT.of upd_same) lch.h7 lch.h8 lch.p8, pairD_shaped _ _, pairD_shaped _ _, _, rfl, ?_⟩
          rw [refl_of (pairD_shaped _ _)]
          exact iteF ⟨rfl, lch, s3 _ _ (e2 _ _ g29 (fun _ z => nomatch z))⟩
        · rw [decide_eq_false (show ¬ V.int (w : Nat) = V.int 2 by intro z; injection z with z; omega)]
          exact iteF (iteF ⟨rfl, lg2, g29⟩)
      rintro σ' G3 ⟨eq, lg3, g39⟩
      subst σ'
      subst eS
      refine ⟨_, rfl, rfl, _, rfl, ?_⟩
      by_cases h2 : w = 2
      · rw [decide_eq_true (show V.int (w : Nat) = V.int 2 by rw [h2]; rfl)]
        refine iteT ⟨_, rfl, t7, _, rfl, .inr (SqT.of lg3.h7), fun D nD => ?_⟩
        have s4 := Same.up (o := .lst (ms.map V.int)) nD
        have eD := upd_same (H := G3) (a := D) (o := .lst (ms.map V.int))
        generalize upd G3 D (.lst (ms.map V.int)) = G4 at s4 eD
        have lg4 := lg3.same s4
        refine ⟨_, rfl, D, t8, 2, ms, xs, f, rfl, by omega, ⟨.inl eD, by omega, hmb⟩, by rw [← h2]; exact hmf, hmd, .inr lg4.h8, by rw [hml, ← h2]; exact lg4.p8, by rw [hml, ← h2]; exact hf, fun G5 v s5 ev => ?_⟩
        rw [hml, ← h2, ← ers] at ev
        have lg5 := lg4.same s5
        refine ⟨_, rfl, _, _, ints_tup K ev, ints_tup K (s5 _ _ (s4 _ _ g39)), ints_shT _, ints_shT _, _, rfl, ?_⟩
        rw [refl_of (ints_shT _)]
        exact iteF ⟨k7, _, _, _, _, _, _, _, _, rfl, lg5.la.dr, lg5.la.t, by omega⟩
      · rw [decide_eq_false (show ¬ V.int (w : Nat) = V.int 2 by intro z; injection z with z; omega)]
        exact iteF (iteF ⟨k7, _, _, _, _, _, _, _, _, rfl, lg3.la.dr, lg3.la.t, by omega⟩)
    · rintro σ H1 _
      exact q _

end
end Tw

set_option Elab.async false
set_option linter.all false
set_option maxRecDepth 100000
set_option maxHeartbeats 2000000
namespace Tw
open PySem PySem.Spec PyProof.Rows L2
theorem kit_no {K : PySem.W.Frag} {C : Addr} {t : String} (hc : PySem.W.isClsIn K C = true) (ht : PySem.W.typeIn K (.ref C) = some (.type "type")) (hs : PySem.W.subIn K (.type t) (.ref C) = some false) : PySem.W.kitOne K (.type t) (.ref C) = some false := by
  unfold PySem.W.kitOne PySem.W.kitCls
  have h1 : (PySem.W.clsIn K C).isSome = true := hc
  simp only [h1, ht, hs, beq_self_eq_true, Bool.and_self, if_true]
  rfl
theorem all_mk {l : PySem.W.OpenLaw} {w : World} {K : PySem.W.Frag} {h : Heap} {mg : Str → Option Value} (X : K.In h) (G : h.Ns mainGlobals mg) {fa C CS CB po D_t___init__ D_t_of D_faults D_sift_down D_build D_code D_decode f_is_integer f_is_integer_from f_is_key f_check_arms f_check_many f_check_place f_row_of f_check_different f_t___init__ f_t_of f_t___len__ f_t___contains__ f_t___iter__ f_t___getitem__ f_t_parent f_t_way_to f_t_depth f_t_subtree f_faults f_heap_of f_different_heap_of f_z___init__ f_sift_down f_least_child f_row_before f_u___init__ f_build f_code f_decode f_places_that_stop f_check_stops f_is_stop f_row_with f_way_down f__law_number f__law_take f__law_pick f__law_parent f__law_children f__law_way f__law_subtree f__law_arms f__law_order f__law_heap f__law_down f__law_built f__law_unlike f__law_stops f_law : Addr} {cc_least_child PP_least_child : Addr} {od_is_integer an_is_integer : Option Addr} {sl_is_integer : Array (Option Value)} {oc_is_integer kV_is_integer dc_is_integer pm_is_integer cd_is_integer ct_is_integer : Value} {od_is_integer_from an_is_integer_from : Option Addr} {sl_is_integer_from : Array (Option Value)} {oc_is_integer_from kV_is_integer_from dc_is_integer_from pm_is_integer_from cd_is_integer_from ct_is_integer_from : Value} {od_is_key an_is_key : Option Addr} {sl_is_key : Array (Option Value)} {oc_is_key kV_is_key dc_is_key pm_is_key cd_is_key ct_is_key : Value} {od_check_arms an_check_arms : Option Addr} {sl_check_arms : Array (Option Value)} {oc_check_arms kV_check_arms dc_check_arms pm_check_arms cd_check_arms ct_check_arms : Value} {od_check_many an_check_many : Option Addr} {sl_check_many : Array (Option Value)} {oc_check_many kV_check_many dc_check_many pm_check_many cd_check_many ct_check_many : Value} {od_check_place an_check_place : Option Addr} {sl_check_place : Array (Option Value)} {oc_check_place kV_check_place dc_check_place pm_check_place cd_check_place ct_check_place : Value} {od_row_of an_row_of : Option Addr} {sl_row_of : Array (Option Value)} {oc_row_of kV_row_of dc_row_of pm_row_of cd_row_of ct_row_of : Value} {od_check_different an_check_different : Option Addr} {sl_check_different : Array (Option Value)} {oc_check_different kV_check_different dc_check_different pm_check_different cd_check_different ct_check_different : Value} {od_t___init__ an_t___init__ : Option Addr} {sl_t___init__ : Array (Option Value)} {oc_t___init__  dc_t___init__ pm_t___init__ cd_t___init__ ct_t___init__ : Value} {od_t_of an_t_of : Option Addr} {sl_t_of : Array (Option Value)} {oc_t_of  dc_t_of pm_t_of cd_t_of ct_t_of : Value} {od_t___len__ an_t___len__ : Option Addr} {sl_t___len__ : Array (Option Value)} {oc_t___len__ kV_t___len__ dc_t___len__ pm_t___len__ cd_t___len__ ct_t___len__ : Value} {od_t___contains__ an_t___contains__ : Option Addr} {sl_t___contains__ : Array (Option Value)} {oc_t___contains__ kV_t___contains__ dc_t___contains__ pm_t___contains__ cd_t___contains__ ct_t___contains__ : Value} {od_t___iter__ an_t___iter__ : Option Addr} {sl_t___iter__ : Array (Option Value)} {oc_t___iter__ kV_t___iter__ dc_t___iter__ pm_t___iter__ cd_t___iter__ ct_t___iter__ : Value} {od_t___getitem__ an_t___getitem__ : Option Addr} {sl_t___getitem__ : Array (Option Value)} {oc_t___getitem__ kV_t___getitem__ dc_t___getitem__ pm_t___getitem__ cd_t___getitem__ ct_t___getitem__ : Value} {od_t_parent an_t_parent : Option Addr} {sl_t_parent : Array (Option Value)} {oc_t_parent kV_t_parent dc_t_parent pm_t_parent cd_t_parent ct_t_parent : Value} {od_t_way_to an_t_way_to : Option Addr} {sl_t_way_to : Array (Option Value)} {oc_t_way_to kV_t_way_to dc_t_way_to pm_t_way_to cd_t_way_to ct_t_way_to : Value} {od_t_depth an_t_depth : Option Addr} {sl_t_depth : Array (Option Value)} {oc_t_depth kV_t_depth dc_t_depth pm_t_depth cd_t_depth ct_t_depth : Value} {od_t_subtree an_t_subtree : Option Addr} {sl_t_subtree : Array (Option Value)} {oc_t_subtree kV_t_subtree dc_t_subtree pm_t_subtree cd_t_subtree ct_t_subtree : Value} {od_faults an_faults : Option Addr} {sl_faults : Array (Option Value)} {oc_faults  dc_faults pm_faults cd_faults ct_faults : Value} {od_heap_of an_heap_of : Option Addr} {sl_heap_of : Array (Option Value)} {oc_heap_of kV_heap_of dc_heap_of pm_heap_of cd_heap_of ct_heap_of : Value} {od_different_heap_of an_different_heap_of : Option Addr} {sl_different_heap_of : Array (Option Value)} {oc_different_heap_of kV_different_heap_of dc_different_heap_of pm_different_heap_of cd_different_heap_of ct_different_heap_of : Value} {od_z___init__ an_z___init__ : Option Addr} {sl_z___init__ : Array (Option Value)} {oc_z___init__ kV_z___init__ dc_z___init__ pm_z___init__ cd_z___init__ ct_z___init__ : Value} {od_sift_down an_sift_down : Option Addr} {sl_sift_down : Array (Option Value)} {oc_sift_down  dc_sift_down pm_sift_down cd_sift_down ct_sift_down : Value} {od_least_child an_least_child : Option Addr} {sl_least_child : Array (Option Value)} {oc_least_child kV_least_child dc_least_child pm_least_child  ct_least_child : Value} {od_row_before an_row_before : Option Addr} {sl_row_before : Array (Option Value)} {oc_row_before kV_row_before dc_row_before pm_row_before cd_row_before ct_row_before : Value} {od_u___init__ an_u___init__ : Option Addr} {sl_u___init__ : Array (Option Value)} {oc_u___init__ kV_u___init__ dc_u___init__ pm_u___init__ cd_u___init__ ct_u___init__ : Value} {od_build an_build : Option Addr} {sl_build : Array (Option Value)} {oc_build  dc_build pm_build cd_build ct_build : Value} {od_code an_code : Option Addr} {sl_code : Array (Option Value)} {oc_code  dc_code pm_code cd_code ct_code : Value} {od_decode an_decode : Option Addr} {sl_decode : Array (Option Value)} {oc_decode  dc_decode pm_decode cd_decode ct_decode : Value} {od_places_that_stop an_places_that_stop : Option Addr} {sl_places_that_stop : Array (Option Value)} {oc_places_that_stop kV_places_that_stop dc_places_that_stop pm_places_that_stop cd_places_that_stop ct_places_that_stop : Value} {od_check_stops an_check_stops : Option Addr} {sl_check_stops : Array (Option Value)} {oc_check_stops kV_check_stops dc_check_stops pm_check_stops cd_check_stops ct_check_stops : Value} {od_is_stop an_is_stop : Option Addr} {sl_is_stop : Array (Option Value)} {oc_is_stop kV_is_stop dc_is_stop pm_is_stop cd_is_stop ct_is_stop : Value} {od_row_with an_row_with : Option Addr} {sl_row_with : Array (Option Value)} {oc_row_with kV_row_with dc_row_with pm_row_with cd_row_with ct_row_with : Value} {od_way_down an_way_down : Option Addr} {sl_way_down : Array (Option Value)} {oc_way_down kV_way_down dc_way_down pm_way_down cd_way_down ct_way_down : Value} {od__law_number an__law_number : Option Addr} {sl__law_number : Array (Option Value)} {oc__law_number kV__law_number dc__law_number pm__law_number cd__law_number ct__law_number : Value} {od__law_take an__law_take : Option Addr} {sl__law_take : Array (Option Value)} {oc__law_take kV__law_take dc__law_take pm__law_take cd__law_take ct__law_take : Value} {od__law_pick an__law_pick : Option Addr} {sl__law_pick : Array (Option Value)} {oc__law_pick kV__law_pick dc__law_pick pm__law_pick cd__law_pick ct__law_pick : Value} {od__law_parent an__law_parent : Option Addr} {sl__law_parent : Array (Option Value)} {oc__law_parent kV__law_parent dc__law_parent pm__law_parent cd__law_parent ct__law_parent : Value} {od__law_children an__law_children : Option Addr} {sl__law_children : Array (Option Value)} {oc__law_children kV__law_children dc__law_children pm__law_children cd__law_children ct__law_children : Value} {od__law_way an__law_way : Option Addr} {sl__law_way : Array (Option Value)} {oc__law_way kV__law_way dc__law_way pm__law_way cd__law_way ct__law_way : Value} {od__law_subtree an__law_subtree : Option Addr} {sl__law_subtree : Array (Option Value)} {oc__law_subtree kV__law_subtree dc__law_subtree pm__law_subtree cd__law_subtree ct__law_subtree : Value} {od__law_arms an__law_arms : Option Addr} {sl__law_arms : Array (Option Value)} {oc__law_arms kV__law_arms dc__law_arms pm__law_arms cd__law_arms ct__law_arms : Value} {od__law_order an__law_order : Option Addr} {sl__law_order : Array (Option Value)} {oc__law_order kV__law_order dc__law_order pm__law_order cd__law_order ct__law_order : Value} {od__law_heap an__law_heap : Option Addr} {sl__law_heap : Array (Option Value)} {oc__law_heap kV__law_heap dc__law_heap pm__law_heap cd__law_heap ct__law_heap : Value} {od__law_down an__law_down : Option Addr} {sl__law_down : Array (Option Value)} {oc__law_down kV__law_down dc__law_down pm__law_down cd__law_down ct__law_down : Value} {od__law_built an__law_built : Option Addr} {sl__law_built : Array (Option Value)} {oc__law_built kV__law_built dc__law_built pm__law_built cd__law_built ct__law_built : Value} {od__law_unlike an__law_unlike : Option Addr} {sl__law_unlike : Array (Option Value)} {oc__law_unlike kV__law_unlike dc__law_unlike pm__law_unlike cd__law_unlike ct__law_unlike : Value} {od__law_stops an__law_stops : Option Addr} {sl__law_stops : Array (Option Value)} {oc__law_stops kV__law_stops dc__law_stops pm__law_stops cd__law_stops ct__law_stops : Value} {od_law an_law : Option Addr} {sl_law : Array (Option Value)} {oc_law kV_law dc_law pm_law cd_law ct_law : Value}
    (hfa : mg "law" = some (.ref fa))
    (aC : PySem.W.nsIn K mainGlobals "Tree" = some (some (.ref C)))
    (aCS : PySem.W.nsIn K mainGlobals "Sift" = some (some (.ref CS)))
    (aCB : PySem.W.nsIn K mainGlobals "Built" = some (some (.ref CB)))
    (a_is_integer : PySem.W.nsIn K mainGlobals "is_integer" = some (some (.ref f_is_integer)))
    (l_is_integer : K.lookup f_is_integer = some ⟨oc_is_integer, od_is_integer, .func (PySem.W.fnOf "is_integer" "is_integer" (defArgs s_is_integer) (defBody s_is_integer) (defScope s_is_integer) .none kV_is_integer dc_is_integer pm_is_integer an_is_integer cd_is_integer ct_is_integer), sl_is_integer⟩)
    (c_is_integer : PySem.W.codeIn K cd_is_integer "is_integer" = true)
    (k_is_integer : PySem.W.keepIn K (.ref f_is_integer) = true)
    (a_is_integer_from : PySem.W.nsIn K mainGlobals "is_integer_from" = some (some (.ref f_is_integer_from)))
    (l_is_integer_from : K.lookup f_is_integer_from = some ⟨oc_is_integer_from, od_is_integer_from, .func (PySem.W.fnOf "is_integer_from" "is_integer_from" (defArgs s_is_integer_from) (defBody s_is_integer_from) (defScope s_is_integer_from) .none kV_is_integer_from dc_is_integer_from pm_is_integer_from an_is_integer_from cd_is_integer_from ct_is_integer_from), sl_is_integer_from⟩)
    (c_is_integer_from : PySem.W.codeIn K cd_is_integer_from "is_integer_from" = true)
    (k_is_integer_from : PySem.W.keepIn K (.ref f_is_integer_from) = true)
    (a_is_key : PySem.W.nsIn K mainGlobals "is_key" = some (some (.ref f_is_key)))
    (l_is_key : K.lookup f_is_key = some ⟨oc_is_key, od_is_key, .func (PySem.W.fnOf "is_key" "is_key" (defArgs s_is_key) (defBody s_is_key) (defScope s_is_key) .none kV_is_key dc_is_key pm_is_key an_is_key cd_is_key ct_is_key), sl_is_key⟩)
    (c_is_key : PySem.W.codeIn K cd_is_key "is_key" = true)
    (k_is_key : PySem.W.keepIn K (.ref f_is_key) = true)
    (a_check_arms : PySem.W.nsIn K mainGlobals "check_arms" = some (some (.ref f_check_arms)))
    (l_check_arms : K.lookup f_check_arms = some ⟨oc_check_arms, od_check_arms, .func (PySem.W.fnOf "check_arms" "check_arms" (defArgs s_check_arms) (defBody s_check_arms) (defScope s_check_arms) .none kV_check_arms dc_check_arms pm_check_arms an_check_arms cd_check_arms ct_check_arms), sl_check_arms⟩)
    (c_check_arms : PySem.W.codeIn K cd_check_arms "check_arms" = true)
    (k_check_arms : PySem.W.keepIn K (.ref f_check_arms) = true)
    (a_check_many : PySem.W.nsIn K mainGlobals "check_many" = some (some (.ref f_check_many)))
    (l_check_many : K.lookup f_check_many = some ⟨oc_check_many, od_check_many, .func (PySem.W.fnOf "check_many" "check_many" (defArgs s_check_many) (defBody s_check_many) (defScope s_check_many) .none kV_check_many dc_check_many pm_check_many an_check_many cd_check_many ct_check_many), sl_check_many⟩)
    (c_check_many : PySem.W.codeIn K cd_check_many "check_many" = true)
    (k_check_many : PySem.W.keepIn K (.ref f_check_many) = true)
    (a_check_place : PySem.W.nsIn K mainGlobals "check_place" = some (some (.ref f_check_place)))
    (l_check_place : K.lookup f_check_place = some ⟨oc_check_place, od_check_place, .func (PySem.W.fnOf "check_place" "check_place" (defArgs s_check_place) (defBody s_check_place) (defScope s_check_place) .none kV_check_place dc_check_place pm_check_place an_check_place cd_check_place ct_check_place), sl_check_place⟩)
    (c_check_place : PySem.W.codeIn K cd_check_place "check_place" = true)
    (k_check_place : PySem.W.keepIn K (.ref f_check_place) = true)
    (a_row_of : PySem.W.nsIn K mainGlobals "row_of" = some (some (.ref f_row_of)))
    (l_row_of : K.lookup f_row_of = some ⟨oc_row_of, od_row_of, .func (PySem.W.fnOf "row_of" "row_of" (defArgs s_row_of) (defBody s_row_of) (defScope s_row_of) .none kV_row_of dc_row_of pm_row_of an_row_of cd_row_of ct_row_of), sl_row_of⟩)
    (c_row_of : PySem.W.codeIn K cd_row_of "row_of" = true)
    (k_row_of : PySem.W.keepIn K (.ref f_row_of) = true)
    (a_check_different : PySem.W.nsIn K mainGlobals "check_different" = some (some (.ref f_check_different)))
    (l_check_different : K.lookup f_check_different = some ⟨oc_check_different, od_check_different, .func (PySem.W.fnOf "check_different" "check_different" (defArgs s_check_different) (defBody s_check_different) (defScope s_check_different) .none kV_check_different dc_check_different pm_check_different an_check_different cd_check_different ct_check_different), sl_check_different⟩)
    (c_check_different : PySem.W.codeIn K cd_check_different "check_different" = true)
    (k_check_different : PySem.W.keepIn K (.ref f_check_different) = true)
    (a_t___init__ : PySem.W.findIn K (.ref C) "__init__" = some (some (.ref f_t___init__)))
    (i_t___init__ : PySem.W.isFn K (.ref f_t___init__) = true)
    (l_t___init__ : K.lookup f_t___init__ = some ⟨oc_t___init__, od_t___init__, .func (PySem.W.fnOf "__init__" "Tree.__init__" (defArgs s_t___init__) (defBody s_t___init__) (defScope s_t___init__) .none (.ref D_t___init__) dc_t___init__ pm_t___init__ an_t___init__ cd_t___init__ ct_t___init__), sl_t___init__⟩)
    (c_t___init__ : PySem.W.codeIn K cd_t___init__ "Tree.__init__" = true)
    (k_t___init__ : PySem.W.keepIn K (.ref f_t___init__) = true)
    {tk_t___init__ : Tok}
    (w_t___init__ : PySem.W.nsIn K D_t___init__ "arms" = some (some (.int 2 tk_t___init__)))
    (a_t_of : PySem.W.findCls K (.ref C) (.type "type") "of" = some (.get (.builtin "classmethod.__get__") (.ref po) .none (.ref C)))
    {rest_of : List Value}
    (r_t_of : PySem.W.recIn K po "classmethod" = some (.ref f_t_of :: rest_of))
    (n_t_of : PySem.W.fnIn K f_t_of = true)
    (l_t_of : K.lookup f_t_of = some ⟨oc_t_of, od_t_of, .func (PySem.W.fnOf "of" "Tree.of" (defArgs s_t_of) (defBody s_t_of) (defScope s_t_of) .none (.ref D_t_of) dc_t_of pm_t_of an_t_of cd_t_of ct_t_of), sl_t_of⟩)
    (c_t_of : PySem.W.codeIn K cd_t_of "Tree.of" = true)
    (k_t_of : PySem.W.keepIn K (.ref f_t_of) = true)
    {tk_t_of : Tok}
    (w_t_of : PySem.W.nsIn K D_t_of "arms" = some (some (.int 2 tk_t_of)))
    (a_t___len__ : PySem.W.findIn K (.ref C) "__len__" = some (some (.ref f_t___len__)))
    (i_t___len__ : PySem.W.isFn K (.ref f_t___len__) = true)
    (n_t___len__ : PySem.W.fnIn K f_t___len__ = true)
    (l_t___len__ : K.lookup f_t___len__ = some ⟨oc_t___len__, od_t___len__, .func (PySem.W.fnOf "__len__" "Tree.__len__" (defArgs s_t___len__) (defBody s_t___len__) (defScope s_t___len__) .none kV_t___len__ dc_t___len__ pm_t___len__ an_t___len__ cd_t___len__ ct_t___len__), sl_t___len__⟩)
    (c_t___len__ : PySem.W.codeIn K cd_t___len__ "Tree.__len__" = true)
    (k_t___len__ : PySem.W.keepIn K (.ref f_t___len__) = true)
    (a_t___contains__ : PySem.W.findIn K (.ref C) "__contains__" = some (some (.ref f_t___contains__)))
    (i_t___contains__ : PySem.W.isFn K (.ref f_t___contains__) = true)
    (n_t___contains__ : PySem.W.fnIn K f_t___contains__ = true)
    (l_t___contains__ : K.lookup f_t___contains__ = some ⟨oc_t___contains__, od_t___contains__, .func (PySem.W.fnOf "__contains__" "Tree.__contains__" (defArgs s_t___contains__) (defBody s_t___contains__) (defScope s_t___contains__) .none kV_t___contains__ dc_t___contains__ pm_t___contains__ an_t___contains__ cd_t___contains__ ct_t___contains__), sl_t___contains__⟩)
    (c_t___contains__ : PySem.W.codeIn K cd_t___contains__ "Tree.__contains__" = true)
    (k_t___contains__ : PySem.W.keepIn K (.ref f_t___contains__) = true)
    (a_t___iter__ : PySem.W.findIn K (.ref C) "__iter__" = some (some (.ref f_t___iter__)))
    (i_t___iter__ : PySem.W.isFn K (.ref f_t___iter__) = true)
    (n_t___iter__ : PySem.W.fnIn K f_t___iter__ = true)
    (l_t___iter__ : K.lookup f_t___iter__ = some ⟨oc_t___iter__, od_t___iter__, .func (PySem.W.fnOf "__iter__" "Tree.__iter__" (defArgs s_t___iter__) (defBody s_t___iter__) (defScope s_t___iter__) .none kV_t___iter__ dc_t___iter__ pm_t___iter__ an_t___iter__ cd_t___iter__ ct_t___iter__), sl_t___iter__⟩)
    (c_t___iter__ : PySem.W.codeIn K cd_t___iter__ "Tree.__iter__" = true)
    (k_t___iter__ : PySem.W.keepIn K (.ref f_t___iter__) = true)
    (a_t___getitem__ : PySem.W.findIn K (.ref C) "__getitem__" = some (some (.ref f_t___getitem__)))
    (i_t___getitem__ : PySem.W.isFn K (.ref f_t___getitem__) = true)
    (n_t___getitem__ : PySem.W.fnIn K f_t___getitem__ = true)
    (l_t___getitem__ : K.lookup f_t___getitem__ = some ⟨oc_t___getitem__, od_t___getitem__, .func (PySem.W.fnOf "__getitem__" "Tree.__getitem__" (defArgs s_t___getitem__) (defBody s_t___getitem__) (defScope s_t___getitem__) .none kV_t___getitem__ dc_t___getitem__ pm_t___getitem__ an_t___getitem__ cd_t___getitem__ ct_t___getitem__), sl_t___getitem__⟩)
    (c_t___getitem__ : PySem.W.codeIn K cd_t___getitem__ "Tree.__getitem__" = true)
    (k_t___getitem__ : PySem.W.keepIn K (.ref f_t___getitem__) = true)
    (a_t_parent : PySem.W.findIn K (.ref C) "parent" = some (some (.ref f_t_parent)))
    (i_t_parent : PySem.W.isFn K (.ref f_t_parent) = true)
    (l_t_parent : K.lookup f_t_parent = some ⟨oc_t_parent, od_t_parent, .func (PySem.W.fnOf "parent" "Tree.parent" (defArgs s_t_parent) (defBody s_t_parent) (defScope s_t_parent) .none kV_t_parent dc_t_parent pm_t_parent an_t_parent cd_t_parent ct_t_parent), sl_t_parent⟩)
    (c_t_parent : PySem.W.codeIn K cd_t_parent "Tree.parent" = true)
    (k_t_parent : PySem.W.keepIn K (.ref f_t_parent) = true)
    (a_t_way_to : PySem.W.findIn K (.ref C) "way_to" = some (some (.ref f_t_way_to)))
    (i_t_way_to : PySem.W.isFn K (.ref f_t_way_to) = true)
    (l_t_way_to : K.lookup f_t_way_to = some ⟨oc_t_way_to, od_t_way_to, .func (PySem.W.fnOf "way_to" "Tree.way_to" (defArgs s_t_way_to) (defBody s_t_way_to) (defScope s_t_way_to) .none kV_t_way_to dc_t_way_to pm_t_way_to an_t_way_to cd_t_way_to ct_t_way_to), sl_t_way_to⟩)
    (c_t_way_to : PySem.W.codeIn K cd_t_way_to "Tree.way_to" = true)
    (k_t_way_to : PySem.W.keepIn K (.ref f_t_way_to) = true)
    (a_t_depth : PySem.W.findIn K (.ref C) "depth" = some (some (.ref f_t_depth)))
    (i_t_depth : PySem.W.isFn K (.ref f_t_depth) = true)
    (l_t_depth : K.lookup f_t_depth = some ⟨oc_t_depth, od_t_depth, .func (PySem.W.fnOf "depth" "Tree.depth" (defArgs s_t_depth) (defBody s_t_depth) (defScope s_t_depth) .none kV_t_depth dc_t_depth pm_t_depth an_t_depth cd_t_depth ct_t_depth), sl_t_depth⟩)
    (c_t_depth : PySem.W.codeIn K cd_t_depth "Tree.depth" = true)
    (k_t_depth : PySem.W.keepIn K (.ref f_t_depth) = true)
    (a_t_subtree : PySem.W.findIn K (.ref C) "subtree" = some (some (.ref f_t_subtree)))
    (i_t_subtree : PySem.W.isFn K (.ref f_t_subtree) = true)
    (l_t_subtree : K.lookup f_t_subtree = some ⟨oc_t_subtree, od_t_subtree, .func (PySem.W.fnOf "subtree" "Tree.subtree" (defArgs s_t_subtree) (defBody s_t_subtree) (defScope s_t_subtree) .none kV_t_subtree dc_t_subtree pm_t_subtree an_t_subtree cd_t_subtree ct_t_subtree), sl_t_subtree⟩)
    (c_t_subtree : PySem.W.codeIn K cd_t_subtree "Tree.subtree" = true)
    (k_t_subtree : PySem.W.keepIn K (.ref f_t_subtree) = true)
    (a_faults : PySem.W.nsIn K mainGlobals "faults" = some (some (.ref f_faults)))
    (l_faults : K.lookup f_faults = some ⟨oc_faults, od_faults, .func (PySem.W.fnOf "faults" "faults" (defArgs s_faults) (defBody s_faults) (defScope s_faults) .none (.ref D_faults) dc_faults pm_faults an_faults cd_faults ct_faults), sl_faults⟩)
    (c_faults : PySem.W.codeIn K cd_faults "faults" = true)
    (k_faults : PySem.W.keepIn K (.ref f_faults) = true)
    {tk_faults : Tok}
    (w_faults : PySem.W.nsIn K D_faults "arms" = some (some (.int 2 tk_faults)))
    (a_heap_of : PySem.W.nsIn K mainGlobals "heap_of" = some (some (.ref f_heap_of)))
    (l_heap_of : K.lookup f_heap_of = some ⟨oc_heap_of, od_heap_of, .func (PySem.W.fnOf "heap_of" "heap_of" (defArgs s_heap_of) (defBody s_heap_of) (defScope s_heap_of) .none kV_heap_of dc_heap_of pm_heap_of an_heap_of cd_heap_of ct_heap_of), sl_heap_of⟩)
    (c_heap_of : PySem.W.codeIn K cd_heap_of "heap_of" = true)
    (k_heap_of : PySem.W.keepIn K (.ref f_heap_of) = true)
    (a_different_heap_of : PySem.W.nsIn K mainGlobals "different_heap_of" = some (some (.ref f_different_heap_of)))
    (l_different_heap_of : K.lookup f_different_heap_of = some ⟨oc_different_heap_of, od_different_heap_of, .func (PySem.W.fnOf "different_heap_of" "different_heap_of" (defArgs s_different_heap_of) (defBody s_different_heap_of) (defScope s_different_heap_of) .none kV_different_heap_of dc_different_heap_of pm_different_heap_of an_different_heap_of cd_different_heap_of ct_different_heap_of), sl_different_heap_of⟩)
    (c_different_heap_of : PySem.W.codeIn K cd_different_heap_of "different_heap_of" = true)
    (k_different_heap_of : PySem.W.keepIn K (.ref f_different_heap_of) = true)
    (a_z___init__ : PySem.W.findIn K (.ref CS) "__init__" = some (some (.ref f_z___init__)))
    (i_z___init__ : PySem.W.isFn K (.ref f_z___init__) = true)
    (l_z___init__ : K.lookup f_z___init__ = some ⟨oc_z___init__, od_z___init__, .func (PySem.W.fnOf "__init__" "Sift.__init__" (defArgs s_z___init__) (defBody s_z___init__) (defScope s_z___init__) .none kV_z___init__ dc_z___init__ pm_z___init__ an_z___init__ cd_z___init__ ct_z___init__), sl_z___init__⟩)
    (c_z___init__ : PySem.W.codeIn K cd_z___init__ "Sift.__init__" = true)
    (k_z___init__ : PySem.W.keepIn K (.ref f_z___init__) = true)
    (a_sift_down : PySem.W.nsIn K mainGlobals "sift_down" = some (some (.ref f_sift_down)))
    (l_sift_down : K.lookup f_sift_down = some ⟨oc_sift_down, od_sift_down, .func (PySem.W.fnOf "sift_down" "sift_down" (defArgs s_sift_down) (defBody s_sift_down) (defScope s_sift_down) .none (.ref D_sift_down) dc_sift_down pm_sift_down an_sift_down cd_sift_down ct_sift_down), sl_sift_down⟩)
    (c_sift_down : PySem.W.codeIn K cd_sift_down "sift_down" = true)
    (k_sift_down : PySem.W.keepIn K (.ref f_sift_down) = true)
    {tk_sift_down : Tok}
    (w_sift_down : PySem.W.nsIn K D_sift_down "arms" = some (some (.int 2 tk_sift_down)))
    (a_least_child : PySem.W.nsIn K mainGlobals "least_child" = some (some (.ref f_least_child)))
    (l_least_child : K.lookup f_least_child = some ⟨oc_least_child, od_least_child, .func (PySem.W.fnOf "least_child" "least_child" (defArgs s_least_child) (defBody s_least_child) (defScope s_least_child) .none kV_least_child dc_least_child pm_least_child an_least_child (.ref cc_least_child) ct_least_child), sl_least_child⟩)
    (c_least_child : PySem.W.codeIn K (.ref cc_least_child) "least_child" = true)
    (k_least_child : PySem.W.keepIn K (.ref f_least_child) = true)
    (a_row_before : PySem.W.nsIn K mainGlobals "row_before" = some (some (.ref f_row_before)))
    (l_row_before : K.lookup f_row_before = some ⟨oc_row_before, od_row_before, .func (PySem.W.fnOf "row_before" "row_before" (defArgs s_row_before) (defBody s_row_before) (defScope s_row_before) .none kV_row_before dc_row_before pm_row_before an_row_before cd_row_before ct_row_before), sl_row_before⟩)
    (c_row_before : PySem.W.codeIn K cd_row_before "row_before" = true)
    (k_row_before : PySem.W.keepIn K (.ref f_row_before) = true)
    (a_u___init__ : PySem.W.findIn K (.ref CB) "__init__" = some (some (.ref f_u___init__)))
    (i_u___init__ : PySem.W.isFn K (.ref f_u___init__) = true)
    (l_u___init__ : K.lookup f_u___init__ = some ⟨oc_u___init__, od_u___init__, .func (PySem.W.fnOf "__init__" "Built.__init__" (defArgs s_u___init__) (defBody s_u___init__) (defScope s_u___init__) .none kV_u___init__ dc_u___init__ pm_u___init__ an_u___init__ cd_u___init__ ct_u___init__), sl_u___init__⟩)
    (c_u___init__ : PySem.W.codeIn K cd_u___init__ "Built.__init__" = true)
    (k_u___init__ : PySem.W.keepIn K (.ref f_u___init__) = true)
    (a_build : PySem.W.nsIn K mainGlobals "build" = some (some (.ref f_build)))
    (l_build : K.lookup f_build = some ⟨oc_build, od_build, .func (PySem.W.fnOf "build" "build" (defArgs s_build) (defBody s_build) (defScope s_build) .none (.ref D_build) dc_build pm_build an_build cd_build ct_build), sl_build⟩)
    (c_build : PySem.W.codeIn K cd_build "build" = true)
    (k_build : PySem.W.keepIn K (.ref f_build) = true)
    {tk_build : Tok}
    (w_build : PySem.W.nsIn K D_build "arms" = some (some (.int 2 tk_build)))
    (a_code : PySem.W.nsIn K mainGlobals "code" = some (some (.ref f_code)))
    (l_code : K.lookup f_code = some ⟨oc_code, od_code, .func (PySem.W.fnOf "code" "code" (defArgs s_code) (defBody s_code) (defScope s_code) .none (.ref D_code) dc_code pm_code an_code cd_code ct_code), sl_code⟩)
    (c_code : PySem.W.codeIn K cd_code "code" = true)
    (k_code : PySem.W.keepIn K (.ref f_code) = true)
    {tk_code : Tok}
    (w_code : PySem.W.nsIn K D_code "arms" = some (some (.int 2 tk_code)))
    (a_decode : PySem.W.nsIn K mainGlobals "decode" = some (some (.ref f_decode)))
    (l_decode : K.lookup f_decode = some ⟨oc_decode, od_decode, .func (PySem.W.fnOf "decode" "decode" (defArgs s_decode) (defBody s_decode) (defScope s_decode) .none (.ref D_decode) dc_decode pm_decode an_decode cd_decode ct_decode), sl_decode⟩)
    (c_decode : PySem.W.codeIn K cd_decode "decode" = true)
    (k_decode : PySem.W.keepIn K (.ref f_decode) = true)
    {tk_decode : Tok}
    (w_decode : PySem.W.nsIn K D_decode "arms" = some (some (.int 2 tk_decode)))
    (a_places_that_stop : PySem.W.nsIn K mainGlobals "places_that_stop" = some (some (.ref f_places_that_stop)))
    (l_places_that_stop : K.lookup f_places_that_stop = some ⟨oc_places_that_stop, od_places_that_stop, .func (PySem.W.fnOf "places_that_stop" "places_that_stop" (defArgs s_places_that_stop) (defBody s_places_that_stop) (defScope s_places_that_stop) .none kV_places_that_stop dc_places_that_stop pm_places_that_stop an_places_that_stop cd_places_that_stop ct_places_that_stop), sl_places_that_stop⟩)
    (c_places_that_stop : PySem.W.codeIn K cd_places_that_stop "places_that_stop" = true)
    (k_places_that_stop : PySem.W.keepIn K (.ref f_places_that_stop) = true)
    (a_check_stops : PySem.W.nsIn K mainGlobals "check_stops" = some (some (.ref f_check_stops)))
    (l_check_stops : K.lookup f_check_stops = some ⟨oc_check_stops, od_check_stops, .func (PySem.W.fnOf "check_stops" "check_stops" (defArgs s_check_stops) (defBody s_check_stops) (defScope s_check_stops) .none kV_check_stops dc_check_stops pm_check_stops an_check_stops cd_check_stops ct_check_stops), sl_check_stops⟩)
    (c_check_stops : PySem.W.codeIn K cd_check_stops "check_stops" = true)
    (k_check_stops : PySem.W.keepIn K (.ref f_check_stops) = true)
    (a_is_stop : PySem.W.nsIn K mainGlobals "is_stop" = some (some (.ref f_is_stop)))
    (l_is_stop : K.lookup f_is_stop = some ⟨oc_is_stop, od_is_stop, .func (PySem.W.fnOf "is_stop" "is_stop" (defArgs s_is_stop) (defBody s_is_stop) (defScope s_is_stop) .none kV_is_stop dc_is_stop pm_is_stop an_is_stop cd_is_stop ct_is_stop), sl_is_stop⟩)
    (c_is_stop : PySem.W.codeIn K cd_is_stop "is_stop" = true)
    (k_is_stop : PySem.W.keepIn K (.ref f_is_stop) = true)
    (a_row_with : PySem.W.nsIn K mainGlobals "row_with" = some (some (.ref f_row_with)))
    (l_row_with : K.lookup f_row_with = some ⟨oc_row_with, od_row_with, .func (PySem.W.fnOf "row_with" "row_with" (defArgs s_row_with) (defBody s_row_with) (defScope s_row_with) .none kV_row_with dc_row_with pm_row_with an_row_with cd_row_with ct_row_with), sl_row_with⟩)
    (c_row_with : PySem.W.codeIn K cd_row_with "row_with" = true)
    (k_row_with : PySem.W.keepIn K (.ref f_row_with) = true)
    (a_way_down : PySem.W.nsIn K mainGlobals "way_down" = some (some (.ref f_way_down)))
    (l_way_down : K.lookup f_way_down = some ⟨oc_way_down, od_way_down, .func (PySem.W.fnOf "way_down" "way_down" (defArgs s_way_down) (defBody s_way_down) (defScope s_way_down) .none kV_way_down dc_way_down pm_way_down an_way_down cd_way_down ct_way_down), sl_way_down⟩)
    (c_way_down : PySem.W.codeIn K cd_way_down "way_down" = true)
    (k_way_down : PySem.W.keepIn K (.ref f_way_down) = true)
    (a__law_number : PySem.W.nsIn K mainGlobals "_law_number" = some (some (.ref f__law_number)))
    (l__law_number : K.lookup f__law_number = some ⟨oc__law_number, od__law_number, .func (PySem.W.fnOf "_law_number" "_law_number" (defArgs s__law_number) (defBody s__law_number) (defScope s__law_number) .none kV__law_number dc__law_number pm__law_number an__law_number cd__law_number ct__law_number), sl__law_number⟩)
    (c__law_number : PySem.W.codeIn K cd__law_number "_law_number" = true)
    (k__law_number : PySem.W.keepIn K (.ref f__law_number) = true)
    (a__law_take : PySem.W.nsIn K mainGlobals "_law_take" = some (some (.ref f__law_take)))
    (l__law_take : K.lookup f__law_take = some ⟨oc__law_take, od__law_take, .func (PySem.W.fnOf "_law_take" "_law_take" (defArgs s__law_take) (defBody s__law_take) (defScope s__law_take) .none kV__law_take dc__law_take pm__law_take an__law_take cd__law_take ct__law_take), sl__law_take⟩)
    (c__law_take : PySem.W.codeIn K cd__law_take "_law_take" = true)
    (k__law_take : PySem.W.keepIn K (.ref f__law_take) = true)
    (a__law_pick : PySem.W.nsIn K mainGlobals "_law_pick" = some (some (.ref f__law_pick)))
    (l__law_pick : K.lookup f__law_pick = some ⟨oc__law_pick, od__law_pick, .func (PySem.W.fnOf "_law_pick" "_law_pick" (defArgs s__law_pick) (defBody s__law_pick) (defScope s__law_pick) .none kV__law_pick dc__law_pick pm__law_pick an__law_pick cd__law_pick ct__law_pick), sl__law_pick⟩)
    (c__law_pick : PySem.W.codeIn K cd__law_pick "_law_pick" = true)
    (k__law_pick : PySem.W.keepIn K (.ref f__law_pick) = true)
    (a__law_parent : PySem.W.nsIn K mainGlobals "_law_parent" = some (some (.ref f__law_parent)))
    (l__law_parent : K.lookup f__law_parent = some ⟨oc__law_parent, od__law_parent, .func (PySem.W.fnOf "_law_parent" "_law_parent" (defArgs s__law_parent) (defBody s__law_parent) (defScope s__law_parent) .none kV__law_parent dc__law_parent pm__law_parent an__law_parent cd__law_parent ct__law_parent), sl__law_parent⟩)
    (c__law_parent : PySem.W.codeIn K cd__law_parent "_law_parent" = true)
    (k__law_parent : PySem.W.keepIn K (.ref f__law_parent) = true)
    (a__law_children : PySem.W.nsIn K mainGlobals "_law_children" = some (some (.ref f__law_children)))
    (l__law_children : K.lookup f__law_children = some ⟨oc__law_children, od__law_children, .func (PySem.W.fnOf "_law_children" "_law_children" (defArgs s__law_children) (defBody s__law_children) (defScope s__law_children) .none kV__law_children dc__law_children pm__law_children an__law_children cd__law_children ct__law_children), sl__law_children⟩)
    (c__law_children : PySem.W.codeIn K cd__law_children "_law_children" = true)
    (k__law_children : PySem.W.keepIn K (.ref f__law_children) = true)
    (a__law_way : PySem.W.nsIn K mainGlobals "_law_way" = some (some (.ref f__law_way)))
    (l__law_way : K.lookup f__law_way = some ⟨oc__law_way, od__law_way, .func (PySem.W.fnOf "_law_way" "_law_way" (defArgs s__law_way) (defBody s__law_way) (defScope s__law_way) .none kV__law_way dc__law_way pm__law_way an__law_way cd__law_way ct__law_way), sl__law_way⟩)
    (c__law_way : PySem.W.codeIn K cd__law_way "_law_way" = true)
    (k__law_way : PySem.W.keepIn K (.ref f__law_way) = true)
    (a__law_subtree : PySem.W.nsIn K mainGlobals "_law_subtree" = some (some (.ref f__law_subtree)))
    (l__law_subtree : K.lookup f__law_subtree = some ⟨oc__law_subtree, od__law_subtree, .func (PySem.W.fnOf "_law_subtree" "_law_subtree" (defArgs s__law_subtree) (defBody s__law_subtree) (defScope s__law_subtree) .none kV__law_subtree dc__law_subtree pm__law_subtree an__law_subtree cd__law_subtree ct__law_subtree), sl__law_subtree⟩)
    (c__law_subtree : PySem.W.codeIn K cd__law_subtree "_law_subtree" = true)
    (k__law_subtree : PySem.W.keepIn K (.ref f__law_subtree) = true)
    (a__law_arms : PySem.W.nsIn K mainGlobals "_law_arms" = some (some (.ref f__law_arms)))
    (l__law_arms : K.lookup f__law_arms = some ⟨oc__law_arms, od__law_arms, .func (PySem.W.fnOf "_law_arms" "_law_arms" (defArgs s__law_arms) (defBody s__law_arms) (defScope s__law_arms) .none kV__law_arms dc__law_arms pm__law_arms an__law_arms cd__law_arms ct__law_arms), sl__law_arms⟩)
    (c__law_arms : PySem.W.codeIn K cd__law_arms "_law_arms" = true)
    (k__law_arms : PySem.W.keepIn K (.ref f__law_arms) = true)
    (a__law_order : PySem.W.nsIn K mainGlobals "_law_order" = some (some (.ref f__law_order)))
    (l__law_order : K.lookup f__law_order = some ⟨oc__law_order, od__law_order, .func (PySem.W.fnOf "_law_order" "_law_order" (defArgs s__law_order) (defBody s__law_order) (defScope s__law_order) .none kV__law_order dc__law_order pm__law_order an__law_order cd__law_order ct__law_order), sl__law_order⟩)
    (c__law_order : PySem.W.codeIn K cd__law_order "_law_order" = true)
    (k__law_order : PySem.W.keepIn K (.ref f__law_order) = true)
    (a__law_heap : PySem.W.nsIn K mainGlobals "_law_heap" = some (some (.ref f__law_heap)))
    (l__law_heap : K.lookup f__law_heap = some ⟨oc__law_heap, od__law_heap, .func (PySem.W.fnOf "_law_heap" "_law_heap" (defArgs s__law_heap) (defBody s__law_heap) (defScope s__law_heap) .none kV__law_heap dc__law_heap pm__law_heap an__law_heap cd__law_heap ct__law_heap), sl__law_heap⟩)
    (c__law_heap : PySem.W.codeIn K cd__law_heap "_law_heap" = true)
    (k__law_heap : PySem.W.keepIn K (.ref f__law_heap) = true)
    (a__law_down : PySem.W.nsIn K mainGlobals "_law_down" = some (some (.ref f__law_down)))
    (l__law_down : K.lookup f__law_down = some ⟨oc__law_down, od__law_down, .func (PySem.W.fnOf "_law_down" "_law_down" (defArgs s__law_down) (defBody s__law_down) (defScope s__law_down) .none kV__law_down dc__law_down pm__law_down an__law_down cd__law_down ct__law_down), sl__law_down⟩)
    (c__law_down : PySem.W.codeIn K cd__law_down "_law_down" = true)
    (k__law_down : PySem.W.keepIn K (.ref f__law_down) = true)
    (a__law_built : PySem.W.nsIn K mainGlobals "_law_built" = some (some (.ref f__law_built)))
    (l__law_built : K.lookup f__law_built = some ⟨oc__law_built, od__law_built, .func (PySem.W.fnOf "_law_built" "_law_built" (defArgs s__law_built) (defBody s__law_built) (defScope s__law_built) .none kV__law_built dc__law_built pm__law_built an__law_built cd__law_built ct__law_built), sl__law_built⟩)
    (c__law_built : PySem.W.codeIn K cd__law_built "_law_built" = true)
    (k__law_built : PySem.W.keepIn K (.ref f__law_built) = true)
    (a__law_unlike : PySem.W.nsIn K mainGlobals "_law_unlike" = some (some (.ref f__law_unlike)))
    (l__law_unlike : K.lookup f__law_unlike = some ⟨oc__law_unlike, od__law_unlike, .func (PySem.W.fnOf "_law_unlike" "_law_unlike" (defArgs s__law_unlike) (defBody s__law_unlike) (defScope s__law_unlike) .none kV__law_unlike dc__law_unlike pm__law_unlike an__law_unlike cd__law_unlike ct__law_unlike), sl__law_unlike⟩)
    (c__law_unlike : PySem.W.codeIn K cd__law_unlike "_law_unlike" = true)
    (k__law_unlike : PySem.W.keepIn K (.ref f__law_unlike) = true)
    (a__law_stops : PySem.W.nsIn K mainGlobals "_law_stops" = some (some (.ref f__law_stops)))
    (l__law_stops : K.lookup f__law_stops = some ⟨oc__law_stops, od__law_stops, .func (PySem.W.fnOf "_law_stops" "_law_stops" (defArgs s__law_stops) (defBody s__law_stops) (defScope s__law_stops) .none kV__law_stops dc__law_stops pm__law_stops an__law_stops cd__law_stops ct__law_stops), sl__law_stops⟩)
    (c__law_stops : PySem.W.codeIn K cd__law_stops "_law_stops" = true)
    (k__law_stops : PySem.W.keepIn K (.ref f__law_stops) = true)
    (a_law : PySem.W.nsIn K mainGlobals "law" = some (some (.ref f_law)))
    (l_law : K.lookup f_law = some ⟨oc_law, od_law, .func (PySem.W.fnOf "law" "law" (defArgs s_law) (defBody s_law) (defScope s_law) .none kV_law dc_law pm_law an_law cd_law ct_law), sl_law⟩)
    (c_law : PySem.W.codeIn K cd_law "law" = true)
    (k_law : PySem.W.keepIn K (.ref f_law) = true)
    {tc_MOST_ARMS : Tok}
    (q_MOST_ARMS : PySem.W.nsIn K mainGlobals "MOST_ARMS" = some (some (.int 4 tc_MOST_ARMS)))
    {tc_MOST_PLACES : Tok}
    (q_MOST_PLACES : PySem.W.nsIn K mainGlobals "MOST_PLACES" = some (some (.int 12 tc_MOST_PLACES)))
    {tc_GREATEST_KEY : Tok}
    (q_GREATEST_KEY : PySem.W.nsIn K mainGlobals "GREATEST_KEY" = some (some (.int 1000000000 tc_GREATEST_KEY)))
    (z_isinstance : PySem.W.nsIn K mainGlobals "isinstance" = some none)
    (z_int : PySem.W.nsIn K mainGlobals "int" = some none)
    (z_bool : PySem.W.nsIn K mainGlobals "bool" = some none)
    (z_len : PySem.W.nsIn K mainGlobals "len" = some none)
    (z_tuple : PySem.W.nsIn K mainGlobals "tuple" = some none)
    (z_list : PySem.W.nsIn K mainGlobals "list" = some none)
    (z_range : PySem.W.nsIn K mainGlobals "range" = some none)
    (z_enumerate : PySem.W.nsIn K mainGlobals "enumerate" = some none)
    (z_reversed : PySem.W.nsIn K mainGlobals "reversed" = some none)
    (z_min : PySem.W.nsIn K mainGlobals "min" = some none)
    (z_sum : PySem.W.nsIn K mainGlobals "sum" = some none)
    (z_iter : PySem.W.nsIn K mainGlobals "iter" = some none)
    (z_any : PySem.W.nsIn K mainGlobals "any" = some none)
    (z_all : PySem.W.nsIn K mainGlobals "all" = some none)
    (z_sorted : PySem.W.nsIn K mainGlobals "sorted" = some none)
    (z_zip : PySem.W.nsIn K mainGlobals "zip" = some none)
    (pg : PySem.W.plainGet K C Str.empty = true)
    (hd : PySem.W.hasDictIn K C = true)
    (po_ : PySem.W.plainOver K C = true)
    (sa : PySem.W.findIn K (.ref C) "__setattr__" = some (some (.builtin "object.__setattr__")))
    (na_nMany : PySem.W.findIn K (.ref C) "many" = some none)
    (na_nArms : PySem.W.findIn K (.ref C) "arms" = some none)
    (na_nPl : PySem.W.findIn K (.ref C) "_places" = some none)
    (mk : PySem.W.makesIn K C = true)
    (kc : PySem.W.keepIn K (.ref C) = true)
    (rd : PySem.W.readsIn K C (.type "type") = true)
    (ga : PySem.W.specialIn K (.ref C) "__getattribute__" = some (some (.builtin "type.__getattribute__")))
    (pgS : PySem.W.plainGet K CS Str.empty = true)
    (hdS : PySem.W.hasDictIn K CS = true)
    (po_S : PySem.W.plainOver K CS = true)
    (saS : PySem.W.findIn K (.ref CS) "__setattr__" = some (some (.builtin "object.__setattr__")))
    (na_nRow : PySem.W.findIn K (.ref CS) "row" = some none)
    (na_nWay : PySem.W.findIn K (.ref CS) "way" = some none)
    (na_nLooks : PySem.W.findIn K (.ref CS) "looks" = some none)
    (mkS : PySem.W.makesIn K CS = true)
    (kcS : PySem.W.keepIn K (.ref CS) = true)
    (pgB : PySem.W.plainGet K CB Str.empty = true)
    (hdB : PySem.W.hasDictIn K CB = true)
    (po_B : PySem.W.plainOver K CB = true)
    (saB : PySem.W.findIn K (.ref CB) "__setattr__" = some (some (.builtin "object.__setattr__")))
    (na_bRow : PySem.W.findIn K (.ref CB) "row" = some none)
    (na_bStops : PySem.W.findIn K (.ref CB) "stops" = some none)
    (na_bChanges : PySem.W.findIn K (.ref CB) "changes" = some none)
    (na_bLooks : PySem.W.findIn K (.ref CB) "looks" = some none)
    (mkB : PySem.W.makesIn K CB = true)
    (kcB : PySem.W.keepIn K (.ref CB) = true)
    (hT_least_child : h.get? PP_least_child = some (PySem.W.tabObj #[])) (hC_least_child : PySem.W.codeHdIn K cc_least_child PP_least_child = true) (hN_least_child : K.lookup PP_least_child = none)
    : LamX.LawAtS l w K CX0 12 63 "script" mg fa h := by
  have e := hfa.symm.trans (PySem.W.mg_of X G a_law)
  cases e
  let A : Ad := { f_is_integer := f_is_integer, d_is_integer := (PySem.W.fnOf "is_integer" "is_integer" (defArgs s_is_integer) (defBody s_is_integer) (defScope s_is_integer) .none kV_is_integer dc_is_integer pm_is_integer an_is_integer cd_is_integer ct_is_integer), f_is_integer_from := f_is_integer_from, d_is_integer_from := (PySem.W.fnOf "is_integer_from" "is_integer_from" (defArgs s_is_integer_from) (defBody s_is_integer_from) (defScope s_is_integer_from) .none kV_is_integer_from dc_is_integer_from pm_is_integer_from an_is_integer_from cd_is_integer_from ct_is_integer_from), f_is_key := f_is_key, d_is_key := (PySem.W.fnOf "is_key" "is_key" (defArgs s_is_key) (defBody s_is_key) (defScope s_is_key) .none kV_is_key dc_is_key pm_is_key an_is_key cd_is_key ct_is_key), f_check_arms := f_check_arms, d_check_arms := (PySem.W.fnOf "check_arms" "check_arms" (defArgs s_check_arms) (defBody s_check_arms) (defScope s_check_arms) .none kV_check_arms dc_check_arms pm_check_arms an_check_arms cd_check_arms ct_check_arms), f_check_many := f_check_many, d_check_many := (PySem.W.fnOf "check_many" "check_many" (defArgs s_check_many) (defBody s_check_many) (defScope s_check_many) .none kV_check_many dc_check_many pm_check_many an_check_many cd_check_many ct_check_many), f_check_place := f_check_place, d_check_place := (PySem.W.fnOf "check_place" "check_place" (defArgs s_check_place) (defBody s_check_place) (defScope s_check_place) .none kV_check_place dc_check_place pm_check_place an_check_place cd_check_place ct_check_place), f_row_of := f_row_of, d_row_of := (PySem.W.fnOf "row_of" "row_of" (defArgs s_row_of) (defBody s_row_of) (defScope s_row_of) .none kV_row_of dc_row_of pm_row_of an_row_of cd_row_of ct_row_of), f_check_different := f_check_different, d_check_different := (PySem.W.fnOf "check_different" "check_different" (defArgs s_check_different) (defBody s_check_different) (defScope s_check_different) .none kV_check_different dc_check_different pm_check_different an_check_different cd_check_different ct_check_different), f_t___init__ := f_t___init__, d_t___init__ := (PySem.W.fnOf "__init__" "Tree.__init__" (defArgs s_t___init__) (defBody s_t___init__) (defScope s_t___init__) .none (.ref D_t___init__) dc_t___init__ pm_t___init__ an_t___init__ cd_t___init__ ct_t___init__), f_t_of := f_t_of, d_t_of := (PySem.W.fnOf "of" "Tree.of" (defArgs s_t_of) (defBody s_t_of) (defScope s_t_of) .none (.ref D_t_of) dc_t_of pm_t_of an_t_of cd_t_of ct_t_of), f_t___len__ := f_t___len__, d_t___len__ := (PySem.W.fnOf "__len__" "Tree.__len__" (defArgs s_t___len__) (defBody s_t___len__) (defScope s_t___len__) .none kV_t___len__ dc_t___len__ pm_t___len__ an_t___len__ cd_t___len__ ct_t___len__), f_t___contains__ := f_t___contains__, d_t___contains__ := (PySem.W.fnOf "__contains__" "Tree.__contains__" (defArgs s_t___contains__) (defBody s_t___contains__) (defScope s_t___contains__) .none kV_t___contains__ dc_t___contains__ pm_t___contains__ an_t___contains__ cd_t___contains__ ct_t___contains__), f_t___iter__ := f_t___iter__, d_t___iter__ := (PySem.W.fnOf "__iter__" "Tree.__iter__" (defArgs s_t___iter__) (defBody s_t___iter__) (defScope s_t___iter__) .none kV_t___iter__ dc_t___iter__ pm_t___iter__ an_t___iter__ cd_t___iter__ ct_t___iter__), f_t___getitem__ := f_t___getitem__, d_t___getitem__ := (PySem.W.fnOf "__getitem__" "Tree.__getitem__" (defArgs s_t___getitem__) (defBody s_t___getitem__) (defScope s_t___getitem__) .none kV_t___getitem__ dc_t___getitem__ pm_t___getitem__ an_t___getitem__ cd_t___getitem__ ct_t___getitem__), f_t_parent := f_t_parent, d_t_parent := (PySem.W.fnOf "parent" "Tree.parent" (defArgs s_t_parent) (defBody s_t_parent) (defScope s_t_parent) .none kV_t_parent dc_t_parent pm_t_parent an_t_parent cd_t_parent ct_t_parent), f_t_way_to := f_t_way_to, d_t_way_to := (PySem.W.fnOf "way_to" "Tree.way_to" (defArgs s_t_way_to) (defBody s_t_way_to) (defScope s_t_way_to) .none kV_t_way_to dc_t_way_to pm_t_way_to an_t_way_to cd_t_way_to ct_t_way_to), f_t_depth := f_t_depth, d_t_depth := (PySem.W.fnOf "depth" "Tree.depth" (defArgs s_t_depth) (defBody s_t_depth) (defScope s_t_depth) .none kV_t_depth dc_t_depth pm_t_depth an_t_depth cd_t_depth ct_t_depth), f_t_subtree := f_t_subtree, d_t_subtree := (PySem.W.fnOf "subtree" "Tree.subtree" (defArgs s_t_subtree) (defBody s_t_subtree) (defScope s_t_subtree) .none kV_t_subtree dc_t_subtree pm_t_subtree an_t_subtree cd_t_subtree ct_t_subtree), f_faults := f_faults, d_faults := (PySem.W.fnOf "faults" "faults" (defArgs s_faults) (defBody s_faults) (defScope s_faults) .none (.ref D_faults) dc_faults pm_faults an_faults cd_faults ct_faults), f_heap_of := f_heap_of, d_heap_of := (PySem.W.fnOf "heap_of" "heap_of" (defArgs s_heap_of) (defBody s_heap_of) (defScope s_heap_of) .none kV_heap_of dc_heap_of pm_heap_of an_heap_of cd_heap_of ct_heap_of), f_different_heap_of := f_different_heap_of, d_different_heap_of := (PySem.W.fnOf "different_heap_of" "different_heap_of" (defArgs s_different_heap_of) (defBody s_different_heap_of) (defScope s_different_heap_of) .none kV_different_heap_of dc_different_heap_of pm_different_heap_of an_different_heap_of cd_different_heap_of ct_different_heap_of), f_z___init__ := f_z___init__, d_z___init__ := (PySem.W.fnOf "__init__" "Sift.__init__" (defArgs s_z___init__) (defBody s_z___init__) (defScope s_z___init__) .none kV_z___init__ dc_z___init__ pm_z___init__ an_z___init__ cd_z___init__ ct_z___init__), f_sift_down := f_sift_down, d_sift_down := (PySem.W.fnOf "sift_down" "sift_down" (defArgs s_sift_down) (defBody s_sift_down) (defScope s_sift_down) .none (.ref D_sift_down) dc_sift_down pm_sift_down an_sift_down cd_sift_down ct_sift_down), f_least_child := f_least_child, d_least_child := (PySem.W.fnOf "least_child" "least_child" (defArgs s_least_child) (defBody s_least_child) (defScope s_least_child) .none kV_least_child dc_least_child pm_least_child an_least_child (.ref cc_least_child) ct_least_child), f_row_before := f_row_before, d_row_before := (PySem.W.fnOf "row_before" "row_before" (defArgs s_row_before) (defBody s_row_before) (defScope s_row_before) .none kV_row_before dc_row_before pm_row_before an_row_before cd_row_before ct_row_before), f_u___init__ := f_u___init__, d_u___init__ := (PySem.W.fnOf "__init__" "Built.__init__" (defArgs s_u___init__) (defBody s_u___init__) (defScope s_u___init__) .none kV_u___init__ dc_u___init__ pm_u___init__ an_u___init__ cd_u___init__ ct_u___init__), f_build := f_build, d_build := (PySem.W.fnOf "build" "build" (defArgs s_build) (defBody s_build) (defScope s_build) .none (.ref D_build) dc_build pm_build an_build cd_build ct_build), f_code := f_code, d_code := (PySem.W.fnOf "code" "code" (defArgs s_code) (defBody s_code) (defScope s_code) .none (.ref D_code) dc_code pm_code an_code cd_code ct_code), f_decode := f_decode, d_decode := (PySem.W.fnOf "decode" "decode" (defArgs s_decode) (defBody s_decode) (defScope s_decode) .none (.ref D_decode) dc_decode pm_decode an_decode cd_decode ct_decode), f_places_that_stop := f_places_that_stop, d_places_that_stop := (PySem.W.fnOf "places_that_stop" "places_that_stop" (defArgs s_places_that_stop) (defBody s_places_that_stop) (defScope s_places_that_stop) .none kV_places_that_stop dc_places_that_stop pm_places_that_stop an_places_that_stop cd_places_that_stop ct_places_that_stop), f_check_stops := f_check_stops, d_check_stops := (PySem.W.fnOf "check_stops" "check_stops" (defArgs s_check_stops) (defBody s_check_stops) (defScope s_check_stops) .none kV_check_stops dc_check_stops pm_check_stops an_check_stops cd_check_stops ct_check_stops), f_is_stop := f_is_stop, d_is_stop := (PySem.W.fnOf "is_stop" "is_stop" (defArgs s_is_stop) (defBody s_is_stop) (defScope s_is_stop) .none kV_is_stop dc_is_stop pm_is_stop an_is_stop cd_is_stop ct_is_stop), f_row_with := f_row_with, d_row_with := (PySem.W.fnOf "row_with" "row_with" (defArgs s_row_with) (defBody s_row_with) (defScope s_row_with) .none kV_row_with dc_row_with pm_row_with an_row_with cd_row_with ct_row_with), f_way_down := f_way_down, d_way_down := (PySem.W.fnOf "way_down" "way_down" (defArgs s_way_down) (defBody s_way_down) (defScope s_way_down) .none kV_way_down dc_way_down pm_way_down an_way_down cd_way_down ct_way_down), f__law_number := f__law_number, d__law_number := (PySem.W.fnOf "_law_number" "_law_number" (defArgs s__law_number) (defBody s__law_number) (defScope s__law_number) .none kV__law_number dc__law_number pm__law_number an__law_number cd__law_number ct__law_number), f__law_take := f__law_take, d__law_take := (PySem.W.fnOf "_law_take" "_law_take" (defArgs s__law_take) (defBody s__law_take) (defScope s__law_take) .none kV__law_take dc__law_take pm__law_take an__law_take cd__law_take ct__law_take), f__law_pick := f__law_pick, d__law_pick := (PySem.W.fnOf "_law_pick" "_law_pick" (defArgs s__law_pick) (defBody s__law_pick) (defScope s__law_pick) .none kV__law_pick dc__law_pick pm__law_pick an__law_pick cd__law_pick ct__law_pick), f__law_parent := f__law_parent, d__law_parent := (PySem.W.fnOf "_law_parent" "_law_parent" (defArgs s__law_parent) (defBody s__law_parent) (defScope s__law_parent) .none kV__law_parent dc__law_parent pm__law_parent an__law_parent cd__law_parent ct__law_parent), f__law_children := f__law_children, d__law_children := (PySem.W.fnOf "_law_children" "_law_children" (defArgs s__law_children) (defBody s__law_children) (defScope s__law_children) .none kV__law_children dc__law_children pm__law_children an__law_children cd__law_children ct__law_children), f__law_way := f__law_way, d__law_way := (PySem.W.fnOf "_law_way" "_law_way" (defArgs s__law_way) (defBody s__law_way) (defScope s__law_way) .none kV__law_way dc__law_way pm__law_way an__law_way cd__law_way ct__law_way), f__law_subtree := f__law_subtree, d__law_subtree := (PySem.W.fnOf "_law_subtree" "_law_subtree" (defArgs s__law_subtree) (defBody s__law_subtree) (defScope s__law_subtree) .none kV__law_subtree dc__law_subtree pm__law_subtree an__law_subtree cd__law_subtree ct__law_subtree), f__law_arms := f__law_arms, d__law_arms := (PySem.W.fnOf "_law_arms" "_law_arms" (defArgs s__law_arms) (defBody s__law_arms) (defScope s__law_arms) .none kV__law_arms dc__law_arms pm__law_arms an__law_arms cd__law_arms ct__law_arms), f__law_order := f__law_order, d__law_order := (PySem.W.fnOf "_law_order" "_law_order" (defArgs s__law_order) (defBody s__law_order) (defScope s__law_order) .none kV__law_order dc__law_order pm__law_order an__law_order cd__law_order ct__law_order), f__law_heap := f__law_heap, d__law_heap := (PySem.W.fnOf "_law_heap" "_law_heap" (defArgs s__law_heap) (defBody s__law_heap) (defScope s__law_heap) .none kV__law_heap dc__law_heap pm__law_heap an__law_heap cd__law_heap ct__law_heap), f__law_down := f__law_down, d__law_down := (PySem.W.fnOf "_law_down" "_law_down" (defArgs s__law_down) (defBody s__law_down) (defScope s__law_down) .none kV__law_down dc__law_down pm__law_down an__law_down cd__law_down ct__law_down), f__law_built := f__law_built, d__law_built := (PySem.W.fnOf "_law_built" "_law_built" (defArgs s__law_built) (defBody s__law_built) (defScope s__law_built) .none kV__law_built dc__law_built pm__law_built an__law_built cd__law_built ct__law_built), f__law_unlike := f__law_unlike, d__law_unlike := (PySem.W.fnOf "_law_unlike" "_law_unlike" (defArgs s__law_unlike) (defBody s__law_unlike) (defScope s__law_unlike) .none kV__law_unlike dc__law_unlike pm__law_unlike an__law_unlike cd__law_unlike ct__law_unlike), f__law_stops := f__law_stops, d__law_stops := (PySem.W.fnOf "_law_stops" "_law_stops" (defArgs s__law_stops) (defBody s__law_stops) (defScope s__law_stops) .none kV__law_stops dc__law_stops pm__law_stops an__law_stops cd__law_stops ct__law_stops), f_law := fa, d_law := (PySem.W.fnOf "law" "law" (defArgs s_law) (defBody s_law) (defScope s_law) .none kV_law dc_law pm_law an_law cd_law ct_law), C := C, CS := CS, CB := CB, po := po, c_least_child := cc_least_child, P_least_child := PP_least_child }
  have T : Tx K mg A := {
    F_is_integer := (fun_mk (st := s_is_integer) l_is_integer c_is_integer k_is_integer)
    m_is_integer := PySem.W.mg_of X G a_is_integer
    F_is_integer_from := (fun_mk (st := s_is_integer_from) l_is_integer_from c_is_integer_from k_is_integer_from)
    m_is_integer_from := PySem.W.mg_of X G a_is_integer_from
    F_is_key := (fun_mk (st := s_is_key) l_is_key c_is_key k_is_key)
    m_is_key := PySem.W.mg_of X G a_is_key
    F_check_arms := (fun_mk (st := s_check_arms) l_check_arms c_check_arms k_check_arms)
    m_check_arms := PySem.W.mg_of X G a_check_arms
    F_check_many := (fun_mk (st := s_check_many) l_check_many c_check_many k_check_many)
    m_check_many := PySem.W.mg_of X G a_check_many
    F_check_place := (fun_mk (st := s_check_place) l_check_place c_check_place k_check_place)
    m_check_place := PySem.W.mg_of X G a_check_place
    F_row_of := (fun_mk (st := s_row_of) l_row_of c_row_of k_row_of)
    m_row_of := PySem.W.mg_of X G a_row_of
    F_check_different := (fun_mk (st := s_check_different) l_check_different c_check_different k_check_different)
    m_check_different := PySem.W.mg_of X G a_check_different
    F_t___init__ := ⟨⟨_, _, _, _, _, _, _, _, _, _, rfl, l_t___init__, c_t___init__, .inl ⟨rfl, rfl⟩, .inr ⟨_, rfl, fun q hq => by rw [List.mem_singleton.mp hq]; exact ⟨_, w_t___init__, relI _ _⟩⟩⟩, k_t___init__⟩
    F_t_of := ⟨⟨_, _, _, _, _, _, _, _, _, _, rfl, l_t_of, c_t_of, .inl ⟨rfl, rfl⟩, .inr ⟨_, rfl, fun q hq => by rw [List.mem_singleton.mp hq]; exact ⟨_, w_t_of, relI _ _⟩⟩⟩, k_t_of⟩
    F_t___len__ := (fun_mk (st := s_t___len__) l_t___len__ c_t___len__ k_t___len__)
    D_t___len__ := ⟨a_t___len__, i_t___len__, n_t___len__⟩
    F_t___contains__ := (fun_mk (st := s_t___contains__) l_t___contains__ c_t___contains__ k_t___contains__)
    D_t___contains__ := ⟨a_t___contains__, i_t___contains__, n_t___contains__⟩
    F_t___iter__ := (fun_mk (st := s_t___iter__) l_t___iter__ c_t___iter__ k_t___iter__)
    D_t___iter__ := ⟨a_t___iter__, i_t___iter__, n_t___iter__⟩
    F_t___getitem__ := (fun_mk (st := s_t___getitem__) l_t___getitem__ c_t___getitem__ k_t___getitem__)
    D_t___getitem__ := ⟨a_t___getitem__, i_t___getitem__, n_t___getitem__⟩
    F_t_parent := (fun_mk (st := s_t_parent) l_t_parent c_t_parent k_t_parent)
    M_t_parent := ⟨a_t_parent, i_t_parent, k_t_parent⟩
    F_t_way_to := (fun_mk (st := s_t_way_to) l_t_way_to c_t_way_to k_t_way_to)
    M_t_way_to := ⟨a_t_way_to, i_t_way_to, k_t_way_to⟩
    F_t_depth := (fun_mk (st := s_t_depth) l_t_depth c_t_depth k_t_depth)
    M_t_depth := ⟨a_t_depth, i_t_depth, k_t_depth⟩
    F_t_subtree := (fun_mk (st := s_t_subtree) l_t_subtree c_t_subtree k_t_subtree)
    M_t_subtree := ⟨a_t_subtree, i_t_subtree, k_t_subtree⟩
    F_faults := ⟨⟨_, _, _, _, _, _, _, _, _, _, rfl, l_faults, c_faults, .inl ⟨rfl, rfl⟩, .inr ⟨_, rfl, fun q hq => by rw [List.mem_singleton.mp hq]; exact ⟨_, w_faults, relI _ _⟩⟩⟩, k_faults⟩
    m_faults := PySem.W.mg_of X G a_faults
    F_heap_of := (fun_mk (st := s_heap_of) l_heap_of c_heap_of k_heap_of)
    m_heap_of := PySem.W.mg_of X G a_heap_of
    F_different_heap_of := (fun_mk (st := s_different_heap_of) l_different_heap_of c_different_heap_of k_different_heap_of)
    m_different_heap_of := PySem.W.mg_of X G a_different_heap_of
    F_z___init__ := (fun_mk (st := s_z___init__) l_z___init__ c_z___init__ k_z___init__)
    F_sift_down := ⟨⟨_, _, _, _, _, _, _, _, _, _, rfl, l_sift_down, c_sift_down, .inl ⟨rfl, rfl⟩, .inr ⟨_, rfl, fun q hq => by rw [List.mem_singleton.mp hq]; exact ⟨_, w_sift_down, relI _ _⟩⟩⟩, k_sift_down⟩
    m_sift_down := PySem.W.mg_of X G a_sift_down
    L_least_child := ⟨_, _, _, _, _, _, _, _, rfl, l_least_child, c_least_child⟩
    F_least_child := (fun_mk (st := s_least_child) l_least_child c_least_child k_least_child)
    m_least_child := PySem.W.mg_of X G a_least_child
    F_row_before := (fun_mk (st := s_row_before) l_row_before c_row_before k_row_before)
    m_row_before := PySem.W.mg_of X G a_row_before
    F_u___init__ := (fun_mk (st := s_u___init__) l_u___init__ c_u___init__ k_u___init__)
    F_build := ⟨⟨_, _, _, _, _, _, _, _, _, _, rfl, l_build, c_build, .inl ⟨rfl, rfl⟩, .inr ⟨_, rfl, fun q hq => by rw [List.mem_singleton.mp hq]; exact ⟨_, w_build, relI _ _⟩⟩⟩, k_build⟩
    m_build := PySem.W.mg_of X G a_build
    F_code := ⟨⟨_, _, _, _, _, _, _, _, _, _, rfl, l_code, c_code, .inl ⟨rfl, rfl⟩, .inr ⟨_, rfl, fun q hq => by rw [List.mem_singleton.mp hq]; exact ⟨_, w_code, relI _ _⟩⟩⟩, k_code⟩
    m_code := PySem.W.mg_of X G a_code
    F_decode := ⟨⟨_, _, _, _, _, _, _, _, _, _, rfl, l_decode, c_decode, .inl ⟨rfl, rfl⟩, .inr ⟨_, rfl, fun q hq => by rw [List.mem_singleton.mp hq]; exact ⟨_, w_decode, relI _ _⟩⟩⟩, k_decode⟩
    m_decode := PySem.W.mg_of X G a_decode
    F_places_that_stop := (fun_mk (st := s_places_that_stop) l_places_that_stop c_places_that_stop k_places_that_stop)
    m_places_that_stop := PySem.W.mg_of X G a_places_that_stop
    F_check_stops := (fun_mk (st := s_check_stops) l_check_stops c_check_stops k_check_stops)
    m_check_stops := PySem.W.mg_of X G a_check_stops
    F_is_stop := (fun_mk (st := s_is_stop) l_is_stop c_is_stop k_is_stop)
    m_is_stop := PySem.W.mg_of X G a_is_stop
    F_row_with := (fun_mk (st := s_row_with) l_row_with c_row_with k_row_with)
    m_row_with := PySem.W.mg_of X G a_row_with
    F_way_down := (fun_mk (st := s_way_down) l_way_down c_way_down k_way_down)
    m_way_down := PySem.W.mg_of X G a_way_down
    F__law_number := (fun_mk (st := s__law_number) l__law_number c__law_number k__law_number)
    m__law_number := PySem.W.mg_of X G a__law_number
    F__law_take := (fun_mk (st := s__law_take) l__law_take c__law_take k__law_take)
    m__law_take := PySem.W.mg_of X G a__law_take
    F__law_pick := (fun_mk (st := s__law_pick) l__law_pick c__law_pick k__law_pick)
    m__law_pick := PySem.W.mg_of X G a__law_pick
    F__law_parent := (fun_mk (st := s__law_parent) l__law_parent c__law_parent k__law_parent)
    m__law_parent := PySem.W.mg_of X G a__law_parent
    F__law_children := (fun_mk (st := s__law_children) l__law_children c__law_children k__law_children)
    m__law_children := PySem.W.mg_of X G a__law_children
    F__law_way := (fun_mk (st := s__law_way) l__law_way c__law_way k__law_way)
    m__law_way := PySem.W.mg_of X G a__law_way
    F__law_subtree := (fun_mk (st := s__law_subtree) l__law_subtree c__law_subtree k__law_subtree)
    m__law_subtree := PySem.W.mg_of X G a__law_subtree
    F__law_arms := (fun_mk (st := s__law_arms) l__law_arms c__law_arms k__law_arms)
    m__law_arms := PySem.W.mg_of X G a__law_arms
    F__law_order := (fun_mk (st := s__law_order) l__law_order c__law_order k__law_order)
    m__law_order := PySem.W.mg_of X G a__law_order
    F__law_heap := (fun_mk (st := s__law_heap) l__law_heap c__law_heap k__law_heap)
    m__law_heap := PySem.W.mg_of X G a__law_heap
    F__law_down := (fun_mk (st := s__law_down) l__law_down c__law_down k__law_down)
    m__law_down := PySem.W.mg_of X G a__law_down
    F__law_built := (fun_mk (st := s__law_built) l__law_built c__law_built k__law_built)
    m__law_built := PySem.W.mg_of X G a__law_built
    F__law_unlike := (fun_mk (st := s__law_unlike) l__law_unlike c__law_unlike k__law_unlike)
    m__law_unlike := PySem.W.mg_of X G a__law_unlike
    F__law_stops := (fun_mk (st := s__law_stops) l__law_stops c__law_stops k__law_stops)
    m__law_stops := PySem.W.mg_of X G a__law_stops
    F_law := (fun_mk (st := s_law) l_law c_law k_law)
    m_law := PySem.W.mg_of X G a_law
    c_MOST_ARMS := .inr ⟨_, PySem.W.mg_of X G q_MOST_ARMS⟩
    c_MOST_PLACES := .inr ⟨_, PySem.W.mg_of X G q_MOST_PLACES⟩
    c_GREATEST_KEY := .inr ⟨_, PySem.W.mg_of X G q_GREATEST_KEY⟩
    g_isinstance := PySem.W.mg_none_of X G z_isinstance
    g_int := PySem.W.mg_none_of X G z_int
    g_bool := PySem.W.mg_none_of X G z_bool
    g_len := PySem.W.mg_none_of X G z_len
    g_tuple := PySem.W.mg_none_of X G z_tuple
    g_list := PySem.W.mg_none_of X G z_list
    g_range := PySem.W.mg_none_of X G z_range
    g_enumerate := PySem.W.mg_none_of X G z_enumerate
    g_reversed := PySem.W.mg_none_of X G z_reversed
    g_min := PySem.W.mg_none_of X G z_min
    g_sum := PySem.W.mg_none_of X G z_sum
    g_iter := PySem.W.mg_none_of X G z_iter
    g_any := PySem.W.mg_none_of X G z_any
    g_all := PySem.W.mg_none_of X G z_all
    g_sorted := PySem.W.mg_none_of X G z_sorted
    g_zip := PySem.W.mg_none_of X G z_zip
    cT := ⟨pg, hd, po_, sa⟩
    nMany := na_nMany
    nArms := na_nArms
    nPl := na_nPl
    mC := PySem.W.mg_of X G aC
    mkC := ⟨mk, a_t___init__, i_t___init__, kc⟩
    cr := ⟨rd, ga⟩
    cof := ⟨a_t_of, ⟨_, r_t_of⟩, n_t_of⟩
    cTS := ⟨pgS, hdS, po_S, saS⟩
    nRow := na_nRow
    nWay := na_nWay
    nLooks := na_nLooks
    mCS := PySem.W.mg_of X G aCS
    mkCS := ⟨mkS, a_z___init__, i_z___init__, kcS⟩
    cTB := ⟨pgB, hdB, po_B, saB⟩
    bRow := na_bRow
    bStops := na_bStops
    bChanges := na_bChanges
    bLooks := na_bLooks
    mCB := PySem.W.mg_of X G aCB
    mkCB := ⟨mkB, a_u___init__, i_u___init__, kcB⟩
  }
  refine ⟨A.d_law, [(cc_least_child, PP_least_child)], spLaw K A, fun p hp => by
    simp only [List.mem_cons, List.not_mem_nil, or_false] at hp
    rcases hp with rfl
    · exact hT_least_child, ?_, ?_, fun s v => .of_eq rfl, fun H a ns hl hb hH hS => ⟨a, ns, rfl, hS, hl, fun p hp => ?_, fun _ => rfl⟩, fun base _ _ hTB => ok_law T (hTB (cc_least_child, PP_least_child) (by simp))⟩
  · exact fun p hp => by
      simp only [List.mem_cons, List.not_mem_nil, or_false] at hp
      rcases hp with rfl
      · exact hN_least_child
  · exact fun p hp => by
      simp only [List.mem_cons, List.not_mem_nil, or_false] at hp
      rcases hp with rfl
      · exact PySem.W.codeHd_of_K X hC_least_child
  · unfold TT at hp
    simp only [List.mem_cons, List.not_mem_nil, or_false] at hp
    rcases hp with rfl
    · exact LamX.TabS.nil (hH (cc_least_child, PP_least_child) (by simp))
theorem walk {l : PySem.W.OpenLaw} {q : Program} {loose : List Str} {XP : (Str → Option Value) → Heap → Prop} {YP : World → Heap → Prop} {d : DefRec} {K : Params → PySem.W.Frag} (hn : l.most = some 63) (hdf : d.params.defaults = [])
    (hY : ∀ (w : World) (h : Heap), YP w h → (K w.params).In h)
    (F : ∀ (w : World) (mg : Str → Option Value) (fa : Addr) (h : Heap), YP w h → (K w.params).In h → h.Ns mainGlobals mg → mg d.name = some (.ref fa) → LamX.LawAtS l w (K w.params) CX0 12 63 "script" mg fa h) :
    PySem.W.WalkO q loose XP YP l.row.toRowW d [] (fun f vs => PySem.call f vs) :=
  LamX.walk_ofTs (n := 63) (k := 12) (x := "script") (CX := fun _ => CX0) hn (by decide) hdf ⟨rfl, by decide, by decide⟩ hY F fun _ _ _ _ _ z => z
end Tw

open PySem PySem.W PyProof.Rows in
set_option maxRecDepth 100000 in
set_option maxHeartbeats 0 in
theorem PySem.Challenge.cw_heaprows_k20_whole_built_codes_holds : PySem.Challenge.rw_heaprows_k20_whole_built_codes.Holds := by
  w_on; o_law; k_head; (case hw => w_witness2)
  k_fill
  refine Tw.walk (l := PySem.Challenge.rw_heaprows_k20_whole_built_codes) rfl rfl (fun w h Y => PySem.W.km_in_of Y) ?F
  case F =>
    intro w mg fa h Y KX G hmg
    have hT8 := PySem.W.km_tabs_of Y
    refine' Tw.all_mk KX G hmg ?aC ?aCS ?aCB ?a_is_integer ?l_is_integer ?c_is_integer ?k_is_integer ?a_is_integer_from ?l_is_integer_from ?c_is_integer_from ?k_is_integer_from ?a_is_key ?l_is_key ?c_is_key ?k_is_key ?a_check_arms ?l_check_arms ?c_check_arms ?k_check_arms ?a_check_many ?l_check_many ?c_check_many ?k_check_many ?a_check_place ?l_check_place ?c_check_place ?k_check_place ?a_row_of ?l_row_of ?c_row_of ?k_row_of ?a_check_different ?l_check_different ?c_check_different ?k_check_different ?a_t___init__ ?i_t___init__ ?l_t___init__ ?c_t___init__ ?k_t___init__ ?w_t___init__ ?a_t_of ?r_t_of ?n_t_of ?l_t_of ?c_t_of ?k_t_of ?w_t_of ?a_t___len__ ?i_t___len__ ?n_t___len__ ?l_t___len__ ?c_t___len__ ?k_t___len__ ?a_t___contains__ ?i_t___contains__ ?n_t___contains__ ?l_t___contains__ ?c_t___contains__ ?k_t___contains__ ?a_t___iter__ ?i_t___iter__ ?n_t___iter__ ?l_t___iter__ ?c_t___iter__ ?k_t___iter__ ?a_t___getitem__ ?i_t___getitem__ ?n_t___getitem__ ?l_t___getitem__ ?c_t___getitem__ ?k_t___getitem__ ?a_t_parent ?i_t_parent ?l_t_parent ?c_t_parent ?k_t_parent ?a_t_way_to ?i_t_way_to ?l_t_way_to ?c_t_way_to ?k_t_way_to ?a_t_depth ?i_t_depth ?l_t_depth ?c_t_depth ?k_t_depth ?a_t_subtree ?i_t_subtree ?l_t_subtree ?c_t_subtree ?k_t_subtree ?a_faults ?l_faults ?c_faults ?k_faults ?w_faults ?a_heap_of ?l_heap_of ?c_heap_of ?k_heap_of ?a_different_heap_of ?l_different_heap_of ?c_different_heap_of ?k_different_heap_of ?a_z___init__ ?i_z___init__ ?l_z___init__ ?c_z___init__ ?k_z___init__ ?a_sift_down ?l_sift_down ?c_sift_down ?k_sift_down ?w_sift_down ?a_least_child ?l_least_child ?c_least_child ?k_least_child ?a_row_before ?l_row_before ?c_row_before ?k_row_before ?a_u___init__ ?i_u___init__ ?l_u___init__ ?c_u___init__ ?k_u___init__ ?a_build ?l_build ?c_build ?k_build ?w_build ?a_code ?l_code ?c_code ?k_code ?w_code ?a_decode ?l_decode ?c_decode ?k_decode ?w_decode ?a_places_that_stop ?l_places_that_stop ?c_places_that_stop ?k_places_that_stop ?a_check_stops ?l_check_stops ?c_check_stops ?k_check_stops ?a_is_stop ?l_is_stop ?c_is_stop ?k_is_stop ?a_row_with ?l_row_with ?c_row_with ?k_row_with ?a_way_down ?l_way_down ?c_way_down ?k_way_down ?a__law_number ?l__law_number ?c__law_number ?k__law_number ?a__law_take ?l__law_take ?c__law_take ?k__law_take ?a__law_pick ?l__law_pick ?c__law_pick ?k__law_pick ?a__law_parent ?l__law_parent ?c__law_parent ?k__law_parent ?a__law_children ?l__law_children ?c__law_children ?k__law_children ?a__law_way ?l__law_way ?c__law_way ?k__law_way ?a__law_subtree ?l__law_subtree ?c__law_subtree ?k__law_subtree ?a__law_arms ?l__law_arms ?c__law_arms ?k__law_arms ?a__law_order ?l__law_order ?c__law_order ?k__law_order ?a__law_heap ?l__law_heap ?c__law_heap ?k__law_heap ?a__law_down ?l__law_down ?c__law_down ?k__law_down ?a__law_built ?l__law_built ?c__law_built ?k__law_built ?a__law_unlike ?l__law_unlike ?c__law_unlike ?k__law_unlike ?a__law_stops ?l__law_stops ?c__law_stops ?k__law_stops ?a_law ?l_law ?c_law ?k_law ?q_MOST_ARMS ?q_MOST_PLACES ?q_GREATEST_KEY ?z_isinstance ?z_int ?z_bool ?z_len ?z_tuple ?z_list ?z_range ?z_enumerate ?z_reversed ?z_min ?z_sum ?z_iter ?z_any ?z_all ?z_sorted ?z_zip ?pg ?hd ?po_ ?sa ?na_nMany ?na_nArms ?na_nPl ?mk ?kc ?rd ?ga ?pgS ?hdS ?po_S ?saS ?na_nRow ?na_nWay ?na_nLooks ?mkS ?kcS ?pgB ?hdB ?po_B ?saB ?na_bRow ?na_bStops ?na_bChanges ?na_bLooks ?mkB ?kcB (hT8 _ (.head _)) (by kernel_rfl) (by kernel_rfl)
    (case aC => k_is)
    (case aCS => k_is)
    (case aCB => k_is)
    (case a_is_integer => k_is)
    (case l_is_integer => k_is)
    (case c_is_integer => k_is)
    (case k_is_integer => k_is)
    (case a_is_integer_from => k_is)
    (case l_is_integer_from => k_is)
    (case c_is_integer_from => k_is)
    (case k_is_integer_from => k_is)
    (case a_is_key => k_is)
    (case l_is_key => k_is)
    (case c_is_key => k_is)
    (case k_is_key => k_is)
    (case a_check_arms => k_is)
    (case l_check_arms => k_is)
    (case c_check_arms => k_is)
    (case k_check_arms => k_is)
    (case a_check_many => k_is)
    (case l_check_many => k_is)
    (case c_check_many => k_is)
    (case k_check_many => k_is)
    (case a_check_place => k_is)
    (case l_check_place => k_is)
    (case c_check_place => k_is)
    (case k_check_place => k_is)
    (case a_row_of => k_is)
    (case l_row_of => k_is)
    (case c_row_of => k_is)
    (case k_row_of => k_is)
    (case a_check_different => k_is)
    (case l_check_different => k_is)
    (case c_check_different => k_is)
    (case k_check_different => k_is)
    (case a_t___init__ => k_is)
    (case i_t___init__ => k_is)
    (case l_t___init__ => k_is)
    (case c_t___init__ => k_is)
    (case k_t___init__ => k_is)
    (case w_t___init__ => k_is)
    (case a_t_of => k_is)
    (case r_t_of => k_is)
    (case n_t_of => k_is)
    (case l_t_of => k_is)
    (case c_t_of => k_is)
    (case k_t_of => k_is)
    (case w_t_of => k_is)
    (case a_t___len__ => k_is)
    (case i_t___len__ => k_is)
    (case n_t___len__ => k_is)
    (case l_t___len__ => k_is)
    (case c_t___len__ => k_is)
    (case k_t___len__ => k_is)
    (case a_t___contains__ => k_is)
    (case i_t___contains__ => k_is)
    (case n_t___contains__ => k_is)
    (case l_t___contains__ => k_is)
    (case c_t___contains__ => k_is)
    (case k_t___contains__ => k_is)
    (case a_t___iter__ => k_is)
    (case i_t___iter__ => k_is)
    (case n_t___iter__ => k_is)
    (case l_t___iter__ => k_is)
    (case c_t___iter__ => k_is)
    (case k_t___iter__ => k_is)
    (case a_t___getitem__ => k_is)
    (case i_t___getitem__ => k_is)
    (case n_t___getitem__ => k_is)
    (case l_t___getitem__ => k_is)
    (case c_t___getitem__ => k_is)
    (case k_t___getitem__ => k_is)
    (case a_t_parent => k_is)
    (case i_t_parent => k_is)
    (case l_t_parent => k_is)
    (case c_t_parent => k_is)
    (case k_t_parent => k_is)
    (case a_t_way_to => k_is)
    (case i_t_way_to => k_is)
    (case l_t_way_to => k_is)
    (case c_t_way_to => k_is)
    (case k_t_way_to => k_is)
    (case a_t_depth => k_is)
    (case i_t_depth => k_is)
    (case l_t_depth => k_is)
    (case c_t_depth => k_is)
    (case k_t_depth => k_is)
    (case a_t_subtree => k_is)
    (case i_t_subtree => k_is)
    (case l_t_subtree => k_is)
    (case c_t_subtree => k_is)
    (case k_t_subtree => k_is)
    (case a_faults => k_is)
    (case l_faults => k_is)
    (case c_faults => k_is)
    (case k_faults => k_is)
    (case w_faults => k_is)
    (case a_heap_of => k_is)
    (case l_heap_of => k_is)
    (case c_heap_of => k_is)
    (case k_heap_of => k_is)
    (case a_different_heap_of => k_is)
    (case l_different_heap_of => k_is)
    (case c_different_heap_of => k_is)
    (case k_different_heap_of => k_is)
    (case a_z___init__ => k_is)
    (case i_z___init__ => k_is)
    (case l_z___init__ => k_is)
    (case c_z___init__ => k_is)
    (case k_z___init__ => k_is)
    (case a_sift_down => k_is)
    (case l_sift_down => k_is)
    (case c_sift_down => k_is)
    (case k_sift_down => k_is)
    (case w_sift_down => k_is)
    (case a_least_child => k_is)
    (case l_least_child => k_is)
    (case c_least_child => k_is)
    (case k_least_child => k_is)
    (case a_row_before => k_is)
    (case l_row_before => k_is)
    (case c_row_before => k_is)
    (case k_row_before => k_is)
    (case a_u___init__ => k_is)
    (case i_u___init__ => k_is)
    (case l_u___init__ => k_is)
    (case c_u___init__ => k_is)
    (case k_u___init__ => k_is)
    (case a_build => k_is)
    (case l_build => k_is)
    (case c_build => k_is)
    (case k_build => k_is)
    (case w_build => k_is)
    (case a_code => k_is)
    (case l_code => k_is)
    (case c_code => k_is)
    (case k_code => k_is)
    (case w_code => k_is)
    (case a_decode => k_is)
    (case l_decode => k_is)
    (case c_decode => k_is)
    (case k_decode => k_is)
    (case w_decode => k_is)
    (case a_places_that_stop => k_is)
    (case l_places_that_stop => k_is)
    (case c_places_that_stop => k_is)
    (case k_places_that_stop => k_is)
    (case a_check_stops => k_is)
    (case l_check_stops => k_is)
    (case c_check_stops => k_is)
    (case k_check_stops => k_is)
    (case a_is_stop => k_is)
    (case l_is_stop => k_is)
    (case c_is_stop => k_is)
    (case k_is_stop => k_is)
    (case a_row_with => k_is)
    (case l_row_with => k_is)
    (case c_row_with => k_is)
    (case k_row_with => k_is)
    (case a_way_down => k_is)
    (case l_way_down => k_is)
    (case c_way_down => k_is)
    (case k_way_down => k_is)
    (case a__law_number => k_is)
    (case l__law_number => k_is)
    (case c__law_number => k_is)
    (case k__law_number => k_is)
    (case a__law_take => k_is)
    (case l__law_take => k_is)
    (case c__law_take => k_is)
    (case k__law_take => k_is)
    (case a__law_pick => k_is)
    (case l__law_pick => k_is)
    (case c__law_pick => k_is)
    (case k__law_pick => k_is)
    (case a__law_parent => k_is)
    (case l__law_parent => k_is)
    (case c__law_parent => k_is)
    (case k__law_parent => k_is)
    (case a__law_children => k_is)
    (case l__law_children => k_is)
    (case c__law_children => k_is)
    (case k__law_children => k_is)
    (case a__law_way => k_is)
    (case l__law_way => k_is)
    (case c__law_way => k_is)
    (case k__law_way => k_is)
    (case a__law_subtree => k_is)
    (case l__law_subtree => k_is)
    (case c__law_subtree => k_is)
    (case k__law_subtree => k_is)
    (case a__law_arms => k_is)
    (case l__law_arms => k_is)
    (case c__law_arms => k_is)
    (case k__law_arms => k_is)
    (case a__law_order => k_is)
    (case l__law_order => k_is)
    (case c__law_order => k_is)
    (case k__law_order => k_is)
    (case a__law_heap => k_is)
    (case l__law_heap => k_is)
    (case c__law_heap => k_is)
    (case k__law_heap => k_is)
    (case a__law_down => k_is)
    (case l__law_down => k_is)
    (case c__law_down => k_is)
    (case k__law_down => k_is)
    (case a__law_built => k_is)
    (case l__law_built => k_is)
    (case c__law_built => k_is)
    (case k__law_built => k_is)
    (case a__law_unlike => k_is)
    (case l__law_unlike => k_is)
    (case c__law_unlike => k_is)
    (case k__law_unlike => k_is)
    (case a__law_stops => k_is)
    (case l__law_stops => k_is)
    (case c__law_stops => k_is)
    (case k__law_stops => k_is)
    (case a_law => k_is)
    (case l_law => k_is)
    (case c_law => k_is)
    (case k_law => k_is)
    (case q_MOST_ARMS => k_is)
    (case q_MOST_PLACES => k_is)
    (case q_GREATEST_KEY => k_is)
    (case z_isinstance => k_is)
    (case z_int => k_is)
    (case z_bool => k_is)
    (case z_len => k_is)
    (case z_tuple => k_is)
    (case z_list => k_is)
    (case z_range => k_is)
    (case z_enumerate => k_is)
    (case z_reversed => k_is)
    (case z_min => k_is)
    (case z_sum => k_is)
    (case z_iter => k_is)
    (case z_any => k_is)
    (case z_all => k_is)
    (case z_sorted => k_is)
    (case z_zip => k_is)
    (case pg => k_is)
    (case hd => k_is)
    (case po_ => k_is)
    (case sa => k_is)
    (case na_nMany => k_is)
    (case na_nArms => k_is)
    (case na_nPl => k_is)
    (case mk => k_is)
    (case kc => k_is)
    (case rd => k_is)
    (case ga => k_is)
    (case pgS => k_is)
    (case hdS => k_is)
    (case po_S => k_is)
    (case saS => k_is)
    (case na_nRow => k_is)
    (case na_nWay => k_is)
    (case na_nLooks => k_is)
    (case mkS => k_is)
    (case kcS => k_is)
    (case pgB => k_is)
    (case hdB => k_is)
    (case po_B => k_is)
    (case saB => k_is)
    (case na_bRow => k_is)
    (case na_bStops => k_is)
    (case na_bChanges => k_is)
    (case na_bLooks => k_is)
    (case mkB => k_is)
    (case kcB => k_is)
