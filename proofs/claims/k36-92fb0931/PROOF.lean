import PyProof.Rows.All
import Wide.All
import OpenK.AllK
import Wide.FinOn
import PyProof.EqAt
import PyProof.EqKinds
import PyProof.TupleCall
import PyProof.ReprRoads
import HandS.ForMost
import HandS.IsInst
import KE.KEqSeq
import HandS.Wide
import HandS.Style
import HandS.TupAny
import HandS.TupMul
import HandS.SortInts
import KE.KRevSl
import KE.GoesMore
import KE.GoesEnum
import HandS.TupLe
import HandS.Conv
import HandS.SetFor
import HandS.Strs
import HandS.WordsExc
import HandS.ExcOwn
import HandS.Zip
import HandS.Rev
import PyProof.NeKinds
import PyProof.AutoSeq1
import KE.KExcInit
import HandS.ForExc
import HandS.ExcIs
import HandS.CallLocal
import KE.KExcIs
import HandS.ExcValue
import HandS.Star
import HandS.Lambda
import HandS.HotCalls
import KE.DataFind
import HandS.GenList
import PyProof.TupleOfGen
import HandS.DictComp
import KE.SortData
import KE.DataCmp
import HandS.TupSets
import PySem.Challenge.RW_leastplaces_k36_whole_numbers_there_and
set_option Elab.async false
set_option linter.all false
set_option maxRecDepth 100000
set_option maxHeartbeats 4000000
/-! Defs that may ask repr: what runs around them holds no repr under way. -/
namespace Gd
open PySem PySem.Spec PyProof.Rows L2

theorem guards_deeper {A : Around} (env : Env) (h : A.guards = some []) : (A.deeper env).guards = some [] := by
  first | exact h | (simpa [Around.deeper] using h)

/-- as FnOk, asked only where no repr is under way -/
structure FnG (P : Program) (w : World) (K : PySem.W.Frag) (mg : Str → Option Value) (base : Heap) (CX : CXT) (k : Nat) (f : Addr) (fd : FuncData) (ps : List Str) (sp : Sp) : Prop where
  len : ∀ vs H Q E, sp vs H Q E → vs.length = ps.length
  run : ∀ (A : Around) (fr : List Env) (s : Shared) (H : Hp) (ar : Args) (us : List Value) (vs : List V) (Q : VK) (E : XK), Room k A → A.guards = some [] → Env0 P w K mg base A fr s H → BindsTo s fd ar (ps.zip us) →
    Vals vs us → sp vs H Q E → codeAny (model P w) A (.call (.ref f) ar) (CR CX fr P w H s Q E) s

section
variable {P : Program} {w : World} {K : PySem.W.Frag} {mg : Str → Option Value} {base : Heap}
theorem fnG_of {x qual : Str} {st : Stmt} {f : Addr} {fd : FuncData} {N ps : List Str} {k : Nat} {sp : Sp} (F : Fun K x qual st f fd) (S : FnScope N ps (defScope st)) (len : ∀ vs H Q E, sp vs H Q E → vs.length = ps.length)
    (body : ∀ (cdv : Value) (A : Around) (fr : List Env) (s : Shared) (H : Hp) (vs : List V) (Q : VK) (E : XK), Room k (A.deeper (envOfC qual (defScope st) s.heap.objs.size f cdv)) →
      (A.deeper (envOfC qual (defScope st) s.heap.objs.size f cdv)).guards = some [] → sp vs H Q E →
      ∃ t, PSs (cxOf CX0 P w K mg base N qual (defScope st) f cdv A fr s H E).nox (defBody st) t ∧ t { nx := fun _ H' => Q .non H', rt := Q } (start N vs) H) : FnG P w K mg base CX0 (k + 1) f fd ps sp := by
  obtain ⟨oc, od, kV, doc, pm, an, cdv, ct, osl, rfl, lk, hcd⟩ := F.ex
  refine ⟨len, ?_⟩
  intro A fr s H ar us vs Q E room gd env bd rel want
  have inK : K.In s.heap := env.mod.kin.keeps (fun b o z => (env.bs b o z).1)
  have nolim : s.heap.NoLimit := env.mod.nolimit.keeps (fun b o z => (env.bs b o z).1)
  refine codeAny_call_function room.depth (inK _ _ lk) rfl S.co S.gen rfl
    (PySem.W.codeRec_of inK hcd) (bd _ _ _ _ ?_)
  refine wpAny_newFunctionEnv_cells S.kind ?kinds ?rest
  case kinds =>
    rintro ⟨n, v⟩ hm
    have par := S.par n (List.of_mem_zip hm).1
    rcases par with z | z
    · exact Or.inl z
    · exact Or.inr (And.intro z (PySem.W.cellsFrom_some _ _ _ (.inl z)))
  case rest =>
    intro env1 e1 s1 inCall
    subst e1
    refine ⟨nolim.keeps inCall.toInCall.keep, codeAny_func ?_⟩
    obtain ⟨t, tree, reading⟩ := body cdv A fr s H vs Q E (room.deeper _) (guards_deeper _ gd) want
    have I0 : Inv (cxOf CX0 P w K mg base N qual (defScope st) f cdv A fr s H E) [] (start N vs) H s1 := inv_start S room.hd env (len _ _ _ _ want) rel inCall
    have ran := tree.nox.run [] s1 (start N vs) H _ I0 reading
    refine wpAny_mono ran ?good (fun _ _ z => z)
    case good =>
      intro flow s2 end2
      cases flow with
      | brk => obtain ⟨_, _, _, no⟩ := end2; exact no.elim
      | cont => obtain ⟨_, _, _, no⟩ := end2; exact no.elim
      | next =>
        obtain ⟨σ2, H2, I2, q2⟩ := end2
        exact (⟨.non, H2, I2.os, I2.bare, I2.base, I2.hok, rfl, q2⟩ : CE fr P w H s Q Value.none s2)
      | ret u =>
        obtain ⟨v, σ2, H2, I2, rv, q2⟩ := end2
        exact (⟨v, H2, I2.os, I2.bare, I2.base, I2.hok, rv, q2⟩ : CE fr P w H s Q u s2)

/-- the law's own call -/
theorem law_runG {mb : Str → Option Value} {CX : CXT} {k : Nat} {fa a : Addr} {fd : FuncData} {x : Str} {sp : Sp} {s₁ : Shared} {vs : List Value} {ns : List Int}
    (inK : K.In s₁.heap) (glob : s₁.heap.Ns mainGlobals mg) (blt : s₁.heap.Ns builtinsNs mb) (plain : ∀ y : Str, y ≠ "__name__" → mb y = bootBuiltins y) (nolim : s₁.heap.NoLimit) (nogen : s₁.gens = #[])
    (obj : s₁.heap.get? a = some { cls := .type "list", data := .seq vs.toArray }) (isInts : IntsAre vs ns) (short : ns.length ≤ sizeLine) (room : Room k callerA)
    (F : ∀ b : Heap, K.In b → b.Ns mainGlobals mg → FnG P w K mg b CX k fa fd [x] sp) (bd : ∀ (s : Shared) (u : Value), BindsTo s fd ⟨[u], []⟩ [(x, u)])
    (want : ∀ H : Hp, Only H → SqL K H a (ns.map V.int) → sp [.ref a] H (fun v _ => v = .bl true) fun _ _ _ => False)
    (noX : ∀ H e s', CX [] H s₁ (fun _ _ _ => False) e s' → False) :
    codeAny (model P w) callerA (.call (.ref fa) ⟨[.ref a], []⟩) (fun r s' => r = .ok (.ret (.bool true)) ∧ OldK s₁.heap s'.heap ∧ s'.os = s₁.os ∧ AllBare s'.gens) s₁ := by
  have rel : Vals (ns.map V.int) vs := vals_ints isInts
  have sizes : vs.length = ns.length := isInts.length
  -- the abstract heap: the script alone, unless the module's own part holds it
  obtain ⟨H, only, script, held, alone, apart⟩ : ∃ H : Hp, Only H ∧ SqL K H a (ns.map V.int) ∧ HOk P w H s₁.heap ∧ (∀ b, H b ≠ none → b = a) ∧ (∀ o, K.lookup a = some o → H a = none) := by
    cases own : K.lookup a with
    | some o =>
      have same := (inK a o own).symm.trans obj
      cases same
      refine ⟨fun _ => none, fun _ => Or.inl rfl, Or.inr ?_, ?_, fun b z => (z rfl).elim, fun _ _ => rfl⟩
      · exact ⟨_, vs.toArray, _, own, rfl, rfl, rfl, by rw [List.size_toArray, sizes]; exact short, by simpa using rel⟩
      · intro b u z
        cases z
    | none =>
      refine ⟨fun b => if b = a then some (.frz ⟨.type "list", none, .seq vs.toArray 0, #[]⟩ (.lst (ns.map V.int))) else none, ?_, ?_, ?_, ?_, fun o z => by cases z⟩
      · intro b
        by_cases e : b = a
        · exact Or.inr ⟨_, _, if_pos e⟩
        · exact Or.inl (if_neg e)
      · exact Or.inl (Or.inr ⟨_, if_pos rfl⟩)
      · intro b u z
        by_cases e : b = a
        · subst e
          dsimp only at z
          rw [if_pos rfl] at z
          cases z
          exact ⟨obj, by rw [List.length_map]; exact short, vs, _, rel, obj⟩
        · dsimp only at z
          rw [if_neg e] at z
          cases z
      · intro b z
        by_cases e : b = a
        · exact e
        · exact (z (if_neg e)).elim
  have free : ∀ {b : Addr} {o : Obj} {es : Array DictEntry} {n : Nat}, s₁.heap.get? b = some o → o.data = .dict es n → H b = none := by
    intro b o es n z d
    cases q : H b with
    | none => rfl
    | some u =>
      have e := alone b (by rw [q]; exact fun y => nomatch y)
      subst e
      rw [obj] at z
      cases z
      cases (show Data.seq vs.toArray 0 = Data.dict es n from d)
  have keepNs : ∀ {b : Addr} {m : Str → Option Value}, s₁.heap.Ns b m → (hidT s₁.heap H).Ns b m := by
    rintro b m ⟨o, es, n, z, d, r⟩
    exact ⟨o, es, n, hidT_get z (free z d), d, r⟩
  have keepK : K.In (hidT s₁.heap H) := by
    intro b o z
    refine hidT_get (inK b o z) ?_
    cases q : H b with
    | none => rfl
    | some u =>
      have e := alone b (by rw [q]; exact fun y => nomatch y)
      subst e
      rw [apart o z] at q
      cases q
  have mod : Mod K mg (hidT s₁.heap H) := by
    obtain ⟨mc, c1, c2⟩ := nolim
    exact ⟨keepK, keepNs glob, ⟨mb, keepNs blt, plain⟩, ⟨mc, keepNs c1, c2⟩⟩
  have env : Env0 P w K mg (hidT s₁.heap H) callerA [] s₁ H := by
    refine ⟨rfl, mod, fun b o z => of_hidT z, ?_, trivial, ?_, held, .of_eq nogen⟩
    · rw [hidT_size]
      exact Nat.le_refl _
    · intro b z
      exact nomatch (show b ∈ ([] : List Addr) from z)
  have ran := (F _ keepK (keepNs glob)).run callerA [] s₁ H ⟨[.ref a], []⟩ [.ref a] [.ref a] _ _ room rfl env (bd s₁ (.ref a)) (.cons rfl .nil) (want H only script)
  refine codeAny_mono ran ?_
  intro r s2 end2
  cases r with
  | error e => exact (noX H e s2 end2).elim
  | ok fl =>
    cases fl with
    | next => exact False.elim end2
    | brk => exact False.elim end2
    | cont => exact False.elim end2
    | ret u =>
      obtain ⟨v, H2, os2, bare2, un2, ok2, rv, yes⟩ := end2
      have yes' : v = .bl true := yes
      subst yes'
      have eu : u = Value.bool true := rv
      subst eu
      refine ⟨rfl, OldK.of_keep ?_, os2, bare2⟩
      intro b o z
      rcases only b with no | ⟨ob, xs, fz⟩
      · refine un2.keep b o z no ?_ ?_
        · intro y
          exact nomatch (show b ∈ ([] : List Addr) from y)
        · intro y
          exact nomatch y
      · have was := (held b _ fz).1
        have now := (ok2 b _ (un2.frzs b ob _ fz)).1
        rw [z] at was
        cases was
        exact now

theorem walk_G {l : PySem.W.OpenLaw} {n k : Nat} {q : Program} {loose : List Str} {XP : (Str → Option Value) → Heap → Prop} {YP : World → Heap → Prop} {d : DefRec} {K : Params → PySem.W.Frag} {sp : PySem.W.Frag → Sp} {x : Str}
    (hn : l.most = some n) (fits : n ≤ sizeLine) (nodf : d.params.defaults = []) (room : Room k callerA) (hY : ∀ (w : World) (h : Heap), YP w h → (K w.params).In h)
    (F : ∀ (w : World) (mg : Str → Option Value) (fa : Addr) (h : Heap), (K w.params).In h → h.Ns mainGlobals mg → mg d.name = some (.ref fa) → ∃ fd : FuncData, (∀ (s : Shared) (u : Value), BindsTo s fd ⟨[u], []⟩ [(x, u)]) ∧
      ∀ b : Heap, (K w.params).In b → b.Ns mainGlobals mg → FnG l.prog w (K w.params) mg b CX0 k fa fd [x] (sp (K w.params)))
    (want : ∀ (K : PySem.W.Frag) (H : Hp) (a : Addr) (ns : List Int), ns.length ≤ n → Only H → SqL K H a (ns.map V.int) → sp K [.ref a] H (fun v _ => v = .bl true) fun _ _ _ => False) :
    PySem.W.WalkO q loose XP YP l.row.toRowW d [] (fun f vs => PySem.call f vs) := by
  apply Att.attach_call hn nodf
  intro w s₀ s₁ mg mb fa o pm cd doc a vs ns G Y ho hd hcd hmg obj isInts hlen nogen
  obtain ⟨fd, bd, hF⟩ := F w mg fa _ (hY w _ Y) G.T.g hmg
  exact law_runG (hY w _ Y) G.T.g G.T.b G.T.builtins G.T.nolimit nogen obj isInts (Nat.le_trans hlen fits) room hF bd (fun H h1 h2 => want _ H a ns hlen h1 h2) (fun _ _ _ z => z)
end
end Gd
/-! Data at any depth, dicts of plain values among them, and what repr says of it. -/
namespace Gd
open PySem PySem.Spec PyProof.Rows L2

/-- a plain value as data -/
def vD : V → PyData
  | .non => .none
  | .bl b => .bool b
  | .int i => .int i
  | .str x => .str x
  | _ => .none
def kD : Key → PyData
  | .inl i => .int i
  | .inr x => .str x
def plainV : V → Bool
  | .non => true
  | .bl _ => true
  | .int _ => true
  | .str _ => true
  | _ => false

/-- a key that no shown dict has: the sign of a dict whose values are any data -/
def noShow : PyData := .tuple [.int (2 ^ 2000)]
theorem noShow_not : noShow.showable = false := by decide +kernel
/-- the value v is the data d, and none of its objects is one of av -/
inductive Dv (av : Addr → Prop) (H : Hp) : V → PyData → Prop
  | non : Dv av H .non .none
  | bl (b : Bool) : Dv av H (.bl b) (.bool b)
  | int (i : Int) : Dv av H (.int i) (.int i)
  | str (x : Str) : Dv av H (.str x) (.str x)
  | lst {a : Addr} {xs : List V} {ds : List PyData} : H a = some (.lst xs) → ¬ av a → xs.length = ds.length → (∀ (i : Nat) (x : V) (d : PyData), xs[i]? = some x → ds[i]? = some d → Dv av H x d) → Dv av H (.ref a) (.list ds)
  | tup {a : Addr} {xs : List V} {ds : List PyData} : H a = some (.tup xs) → ¬ av a → xs.length = ds.length → (∀ (i : Nat) (x : V) (d : PyData), xs[i]? = some x → ds[i]? = some d → Dv av H x d) → Dv av H (.ref a) (.tuple ds)
  | dct {a : Addr} {kvs : List (Key × V)} : H a = some (.dK kvs) → ¬ av a → (∀ p ∈ kvs, plainV p.2 = true) → Dv av H (.ref a) (.dict (kvs.map fun p => (kD p.1, vD p.2)))
  | dcv {a : Addr} {kvs : List (Key × V)} {ds : List PyData} : H a = some (.dK kvs) → ¬ av a → kvs.length = ds.length → (∀ (i : Nat) (x : Key × V) (d : PyData), kvs[i]? = some x → ds[i]? = some d → Dv av H x.2 d) → Dv av H (.ref a) (.dict ((noShow, .none) :: List.zipWith (fun x d => (kD x.1, d)) kvs ds))

/-- the things of the world: objects of own classes, lists that all may change -/
def wo : HO → Bool
  | .ins _ _ _ => true
  | .ext _ => true
  | _ => false
/-- a list that all may change, by what is true of its object -/
def WL (a : Addr) (xs : List V) : Heap → Prop := fun h => xs.length ≤ sizeLine ∧ ∃ (its : List Value) (n : Nat), Vals xs its ∧ h.get? a = some { cls := .type "list", data := .seq its.toArray n }
/-- the things of the world that a frame may speak of -/
def wk (a : Addr) (o : HO) : Prop := (∃ C dx fs, o = .ins C dx fs) ∨ ∃ xs, o = .ext (WL a xs)
theorem wk.wo {a : Addr} {o : HO} (h : wk a o) : wo o = true := by
  rcases h with ⟨C, dx, fs, rfl⟩ | ⟨xs, rfl⟩ <;> rfl
/-- what becomes of o: it stays; a thing of the world stays one -/
def Stay : HO → Option HO → Prop
  | .ins _ _ _, x => ∃ u, x = some u ∧ wo u = true
  | .ext _, x => ∃ u, x = some u ∧ wo u = true
  | o, x => x = some o
theorem Stay.of {o : HO} {x : Option HO} (h : x = some o) : Stay o x := by
  cases o <;> first | exact h | exact ⟨_, h, rfl⟩
theorem Stay.eq {o : HO} {x : Option HO} (h : Stay o x) (w : wo o = false) : x = some o := by
  cases o <;> first | exact h | cases w
theorem Stay.ne {o : HO} {x : Option HO} (h : Stay o x) : x ≠ none := by
  cases o <;> first | (obtain ⟨u, e, _⟩ := h; rw [e]; exact fun z => by cases z) | (intro e; rw [e] at h; cases h)
theorem Stay.wo {o : HO} {x : Option HO} (h : Stay o x) (w : wo o = true) : ∃ u, x = some u ∧ Gd.wo u = true := by
  cases o <;> first | exact h | cases w
theorem Stay.mk {o u : HO} {x : Option HO} (e : x = some u) (w : Gd.wo o = true) (w' : Gd.wo u = true) : Stay o x := by
  cases o <;> first | exact ⟨u, e, w'⟩ | cases w
theorem Stay.trans {o : HO} {x y : Option HO} (h : Stay o x) (k : ∀ u, x = some u → Stay u y) : Stay o y := by
  by_cases w : Gd.wo o = true
  · obtain ⟨u, e, w'⟩ := h.wo w
    obtain ⟨u', e', w2⟩ := (k u e).wo w'
    exact Stay.mk e' w w2
  · exact k o (h.eq (by simpa using w))
def Kp (av : Addr → Prop) (H H' : Hp) : Prop := ∀ b o, H b = some o → ¬ av b → Stay o (H' b)
theorem Kp.refl {av : Addr → Prop} (H : Hp) : Kp av H H := fun _ _ h _ => Stay.of h
theorem Kp.trans {av : Addr → Prop} {H H1 H2 : Hp} (a : Kp av H H1) (b : Kp av H1 H2) : Kp av H H2 := fun c o h n => (a c o h n).trans fun u e => b c u e n
theorem Kp.of_same {av : Addr → Prop} {H H1 : Hp} (a : Same H H1) : Kp av H H1 := fun c o h _ => Stay.of (a c o h)
theorem Dv.keep {av : Addr → Prop} {H H' : Hp} (k : Kp av H H') {v : V} {d : PyData} (h : Dv av H v d) : Dv av H' v d := by
  induction h with
  | non => exact .non
  | bl b => exact .bl b
  | int i => exact .int i
  | str x => exact .str x
  | lst e n l _ ih => exact .lst (k _ _ e n) n l ih
  | tup e n l _ ih => exact .tup (k _ _ e n) n l ih
  | dct e n p => exact .dct (k _ _ e n) n p
  | dcv e n l _ ih => exact .dcv (k _ _ e n) n l ih

/-- all but the objects of av stays, things of the world too -/
def Kq (av : Addr → Prop) (H H' : Hp) : Prop := ∀ b o, H b = some o → ¬ av b → H' b = some o
theorem Kq.refl {av : Addr → Prop} (H : Hp) : Kq av H H := fun _ _ h _ => h
theorem Kq.trans {av : Addr → Prop} {H H1 H2 : Hp} (a : Kq av H H1) (b : Kq av H1 H2) : Kq av H H2 := fun c o h n => b c o (a c o h n) n
theorem Kq.of_same {av : Addr → Prop} {H H1 : Hp} (a : Same H H1) : Kq av H H1 := fun c o h _ => a c o h
theorem Kq.kp {av : Addr → Prop} {H H1 : Hp} (a : Kq av H H1) : Kp av H H1 := fun c o h n => Stay.of (a c o h n)
theorem Dv.keepq {av : Addr → Prop} {H H' : Hp} (k : Kq av H H') {v : V} {d : PyData} (h : Dv av H v d) : Dv av H' v d := h.keep k.kp
section
variable {prog : Program} {w : World} {h : Heap}
def Rk (prog : Program) (w : World) (h : Heap) (u : Value) (d : PyData) : Prop := (∃ as, Reads h u d as) ∧ ∃ bs, ReadAtMost h d.depth bs ∧ ReprK prog w bs h d.depth u d.shown
def RkAll (prog : Program) (w : World) (h : Heap) (us : List Value) (ds : List PyData) : Prop :=
  (∃ as, ReadsAll h us ds as) ∧ ∃ bs, ReadAtMost h (PyData.depthAll ds) bs ∧ ReprAllK prog w bs h (PyData.depthAll ds) us (PyData.shownAll ds)
theorem rk_nil : RkAll prog w h [] [] := ⟨⟨_, .nil⟩, [], (fun _ z => nomatch z), by rw [PyData.shownAll]; exact .nil⟩
theorem rk_cons {u : Value} {d : PyData} {us : List Value} {ds : List PyData} (a : Rk prog w h u d) (b : RkAll prog w h us ds) : RkAll prog w h (u :: us) (d :: ds) := by
  obtain ⟨⟨as, r⟩, b1, m1, k1⟩ := a
  obtain ⟨⟨cs, rs⟩, b2, m2, k2⟩ := b
  refine ⟨⟨_, .cons r rs⟩, b1 ++ b2, ?_, ?_⟩
  · rw [PyData.depthAll]
    exact (m1.mono (Nat.le_max_left _ _)).append (m2.mono (Nat.le_max_right _ _))
  · rw [PyData.depthAll, PyData.shownAll]
    refine .cons ((k1.more ?_).level_le (Nat.le_max_left _ _)) (k2.more_le ?_ (Nat.le_max_right _ _))
    · exact fun c z => List.mem_append_left _ z
    · exact fun c z => List.mem_append_right _ z
theorem rk_list {a : Addr} {o : Obj} {vs : List Value} {n : Nat} {ds : List PyData} (e : h.get? a = some o) (c : o.cls = .type "list") (dt : o.data = .seq vs.toArray n) (all : RkAll prog w h vs ds) : Rk prog w h (.ref a) (.list ds) := by
  obtain ⟨⟨as, rs⟩, bs, m, k⟩ := all
  have r : Reads h (.ref a) (.list ds) (a :: as) := .list e c dt rs
  have deep : PyData.depth (.list ds) = PyData.depthAll ds + 1 := by rw [PyData.depth]
  refine ⟨⟨_, r⟩, a :: bs, ReadAtMost.cons r (by omega) m, ?_⟩
  rw [deep, PyData.shown]
  cases vs with
  | nil =>
    cases rs
    rw [PyData.shownAll, listText_nil]
    exact ReprK.listEmpty e c dt
  | cons x l => exact ReprK.list e c dt (not_mem_of_deeper r (by omega) m) (by simpa using k.length_eq) (fun i y z => k.item i y (by simpa using z))
theorem rk_tuple {a : Addr} {o : Obj} {vs : List Value} {n : Nat} {ds : List PyData} (e : h.get? a = some o) (c : o.cls = .type "tuple") (dt : o.data = .seq vs.toArray n) (all : RkAll prog w h vs ds) : Rk prog w h (.ref a) (.tuple ds) := by
  obtain ⟨⟨as, rs⟩, bs, m, k⟩ := all
  have r : Reads h (.ref a) (.tuple ds) as := .tuple e c dt rs
  have deep : PyData.depth (.tuple ds) = PyData.depthAll ds + 1 := by rw [PyData.depth]
  refine ⟨⟨_, r⟩, a :: bs, ReadAtMost.cons r (by omega) m, ?_⟩
  rw [deep, PyData.shown]
  exact ReprK.tuple e c dt (not_mem_of_deeper r (by omega) m) k
theorem rk_plain {v : V} {u : Value} (p : plainV v = true) (r : RelV v u) : Reads h u (vD v) [] := by
  cases v with
  | non => cases r; exact .none
  | bl b => cases r; exact .bool b
  | int i => obtain ⟨t, rfl⟩ := r; exact .int i t
  | str x => obtain ⟨t, rfl⟩ := r; exact .str x t
  | byt b => cases p
  | flt b => cases p
  | ref a => cases p
  | ty n => cases p
theorem rk_dict {a : Addr} {kvs : List (Key × V)} (ok : ObjOk prog w H h a (.dK kvs)) (pl : ∀ p ∈ kvs, plainV p.2 = true) (sh : (PyData.dict (kvs.map fun p => (kD p.1, vD p.2))).showable = true)
    (sz : (PyData.dict (kvs.map fun p => (kD p.1, vD p.2))).shown.length ≤ sizeLine) : Rk prog w h (.ref a) (.dict (kvs.map fun p => (kD p.1, vD p.2))) := by
  obtain ⟨_, hm, vs, rel, o, es, ep, e, ex, dt, _, prs, _⟩ := ok
  have ks : ∀ (kvs : List (Key × V)) (vs : List (Key × Value)) (l : List DictEntry), (∀ p ∈ kvs, plainV p.2 = true) → KV kvs vs → Pairs (mixKind prog w) l vs →
      ReadsAll h (l.map (·.key)) ((kvs.map fun p => (kD p.1, vD p.2)).map (·.1)) [] ∧ ReadsAll h (l.map (·.val)) ((kvs.map fun p => (kD p.1, vD p.2)).map (·.2)) [] := by
    intro kvs
    induction kvs with
    | nil =>
      intro vs l _ q p
      cases q
      cases p
      exact ⟨.nil, .nil⟩
    | cons kv kvs ih =>
      intro vs l pl q p
      cases q with
      | cons q1 q2 =>
        cases p with
        | cons p1 p2 p3 =>
          obtain ⟨i1, i2⟩ := ih _ _ (fun p z => pl p (List.mem_cons_of_mem _ z)) q2 p3
          obtain ⟨q1a, q1b⟩ := q1
          refine ⟨?_, ?_⟩
          · refine ReadsAll.cons (as := []) (bs := []) ?_ i1
            rw [← q1a] at p1
            obtain ⟨k1, v1⟩ := kv
            rcases keyIs_shape p1 with ⟨i, t, ek, ev⟩ | ⟨x, t, ek, ev⟩
            · dsimp only at ek
              subst ek
              dsimp only
              rw [ev]
              exact .int i t
            · dsimp only at ek
              subst ek
              dsimp only
              rw [ev]
              exact .str x t
          · refine ReadsAll.cons (as := []) (bs := []) ?_ i2
            dsimp only
            rw [p2]
            exact rk_plain (pl kv List.mem_cons_self) q1b
  obtain ⟨r1, r2⟩ := ks kvs vs es.toList pl rel prs
  have r : Reads h (.ref a) (.dict (kvs.map fun p => (kD p.1, vD p.2))) (a :: [] ++ []) := .dict e ex.1 dt r1 r2
  refine ⟨⟨_, r⟩, ReprK.of_reads r sh (fun _ z => ?_) sz⟩
  rcases List.mem_cons.mp z with q | q
  · rw [← q] at hm
    exact Bool.noConfusion ((beq_self_eq_true sysModules).symm.trans hm)
  · exact nomatch q
end

theorem shownAll_mem : ∀ {ds : List PyData} {d : PyData}, d ∈ ds → d.shown ∈ PyData.shownAll ds
  | [], _, h => nomatch h
  | x :: r, d, h => by
    rw [PyData.shownAll]
    rcases List.mem_cons.mp h with rfl | h
    · exact List.mem_cons_self
    · exact List.mem_cons_of_mem _ (shownAll_mem h)
theorem showableAll_mem : ∀ {ds : List PyData} {d : PyData}, PyData.showableAll ds = true → d ∈ ds → d.showable = true
  | [], _, _, h => nomatch h
  | x :: r, d, s, h => by
    rw [PyData.showableAll, Bool.and_eq_true] at s
    rcases List.mem_cons.mp h with rfl | h
    · exact s.1
    · exact showableAll_mem s.2 h

section
variable {X : Cx} {pins : List (Addr × Obj)} {σ : L2.St} {H : Hp} {s : Shared} {av : Addr → Prop}
theorem rk_all {xs : List V} {ds : List PyData} (ih : ∀ (i : Nat) (x : V) (d : PyData), xs[i]? = some x → ds[i]? = some d → ∀ u, RelV x u → Rk X.prog X.w s.heap u d) (l : xs.length = ds.length) {us : List Value} (r : Vals xs us) : RkAll X.prog X.w s.heap us ds := by
  induction r generalizing ds with
  | nil =>
    cases ds with
    | nil => exact rk_nil
    | cons d ds => cases l
  | cons r1 r2 ih2 =>
    cases ds with
    | nil => cases l
    | cons d ds => exact rk_cons (ih 0 _ _ rfl rfl _ r1) (ih2 (fun i x e h1 h2 => ih (i + 1) x e h1 h2) (Nat.succ.inj l))
theorem Dv.rk (I : Inv X pins σ H s) {v : V} {d : PyData} (h : Dv av H v d) : d.showable = true → d.shown.length ≤ sizeLine → ∀ u, RelV v u → Rk X.prog X.w s.heap u d := by
  have flat : ∀ {u : Value} {d : PyData}, Reads s.heap u d [] → d.hasDict = false → d.showable = true → d.shown.length ≤ sizeLine → Rk X.prog X.w s.heap u d := fun r n sh sz => ⟨⟨_, r⟩, ReprK.of_reads r sh (fun z => by rw [n] at z; cases z) sz⟩
  induction h with
  | non => intro sh sz u r; cases r; exact flat .none rfl sh sz
  | bl b => intro sh sz u r; cases r; exact flat (.bool b) rfl sh sz
  | int i => intro sh sz u r; obtain ⟨t, rfl⟩ := r; exact flat (.int i t) rfl sh sz
  | str x => intro sh sz u r; obtain ⟨t, rfl⟩ := r; exact flat (.str x t) rfl sh sz
  | lst e n l _ ih =>
    intro sh sz u r
    cases r
    obtain ⟨_, its, m, rv, ho⟩ := I.hok _ _ e
    rw [PyData.shown] at sz
    rw [PyData.showable] at sh
    refine rk_list ho rfl rfl (rk_all (fun i x d h1 h2 u q => ?_) l rv)
    exact ih i x d h1 h2 (showableAll_mem sh (List.mem_of_getElem? h2)) (Nat.le_trans (listText_mem_le (shownAll_mem (List.mem_of_getElem? h2))) sz) u q
  | tup e n l _ ih =>
    intro sh sz u r
    cases r
    obtain ⟨_, its, rv, o, ho, hc, m, hd⟩ := I.hok _ _ e
    rw [PyData.shown] at sz
    rw [PyData.showable] at sh
    refine rk_tuple ho hc hd (rk_all (fun i x d h1 h2 u q => ?_) l rv)
    exact ih i x d h1 h2 (showableAll_mem sh (List.mem_of_getElem? h2)) (Nat.le_trans (tupleText_mem_le (shownAll_mem (List.mem_of_getElem? h2))) sz) u q
  | dct e n p =>
    intro sh sz u r
    cases r
    exact rk_dict (I.hok _ _ e) p sh sz
  | dcv e n l _ ih =>
    intro sh
    rw [PyData.showable, PyData.showableKv, noShow_not] at sh
    cases sh

/-- repr(x), x any data: its text -/
def rRepr (av : Addr → Prop) : List V → Hp → VK → Prop := fun xs H Q => ∃ x d, xs = [x] ∧ Dv av H x d ∧ d.showable = true ∧ d.shown.length ≤ sizeLine ∧ d.depth ≤ 60 ∧ Q (.str d.shown) H
theorem call_repr (hg : X.A.guards = some []) (hu : X.A.units + 64 < cLine) : CallR X (.builtin "repr") (rRepr av) := by
  intro pins s σ H xs us Q I r want
  obtain ⟨x, d, rfl, dv, sh, sz, dp, q⟩ := want
  obtain ⟨u, rfl, ru⟩ := vals1 r
  have ends : ∀ h' t tk, (∀ b o, s.heap.get? b = some o → h'.get? b = some o) → EP X pins σ Q (.str d.shown t) { s with heap := h', toks := tk } := fun h' t tk k => ⟨.str d.shown, H, I.kept k, ⟨t, rfl⟩, q⟩
  have all := dv.rk I sh sz u ru
  have g1 : X.A.in1.guards = some [] := hg
  have u1 : X.A.in1.units + 63 < cLine := by show X.A.units + 1 + 63 < cLine; omega
  cases dv with
  | non => cases ru; exact PySem.P.repr_of_none (ends s.heap _ _ fun _ _ e => e)
  | bl b =>
    cases ru
    refine PySem.P.repr_of_bool ?_
    have z := ends s.heap s.toks (s.toks + 1) fun _ _ e => e
    rw [PyData.shown] at z
    exact z
  | int i =>
    obtain ⟨t, rfl⟩ := ru
    refine PySem.P.repr_of_int (by simpa [PyData.showable] using sh) ?_
    have z := ends s.heap s.toks (s.toks + 1) fun _ _ e => e
    rw [PyData.shown] at z
    exact z
  | str y =>
    obtain ⟨t, rfl⟩ := ru
    refine PySem.P.repr_of_str ?_ (by simpa only [PyData.shown] using sz)
    have z := ends s.heap s.toks (s.toks + 1) fun _ _ e => e
    rw [PyData.shown] at z
    exact z
  | @lst a ys ds e n l f =>
    cases ru
    obtain ⟨_, its, m, rv, ho⟩ := I.hok _ _ e
    have sh' := sh
    have sz' := sz
    rw [PyData.showable] at sh'
    rw [PyData.shown] at sz'
    have parts : RkAll X.prog X.w s.heap its ds := rk_all (fun i x d h1 h2 u q => (f i x d h1 h2).rk I (showableAll_mem sh' (List.mem_of_getElem? h2)) (Nat.le_trans (listText_mem_le (shownAll_mem (List.mem_of_getElem? h2))) sz') u q) l rv
    obtain ⟨⟨as, rs⟩, bs, mb, k⟩ := parts
    have rd : Reads s.heap (.ref a) (.list ds) (a :: as) := .list ho rfl rfl rs
    have deep : PyData.depth (.list ds) = PyData.depthAll ds + 1 := by rw [PyData.depth]
    refine call_repr_slot (by omega) ⟨_, ho, rfl⟩ PySem.F.slot_list_repr.toG ?_
    rw [PyData.shown] at ends
    cases its with
    | nil =>
      cases rs
      rw [PyData.shownAll, listText_nil] at ends
      exact call_list_repr_empty ⟨_, ho, rfl⟩ ho rfl ⟨_, _, rfl, ends s.heap _ _ fun _ _ e => e⟩
    | cons y its =>
      exact call_list_reprK ho rfl rfl (not_mem_of_deeper rd (by omega) mb) (by simpa using k.length_eq) (fun i y z => k.item i y (by simpa using z)) g1 (fun b _ => Clear.nil b) (by omega) (fun _ _ e => e) (fun h' t tk kk => ⟨_, _, rfl, ends h' t tk kk⟩) sz'
  | @tup a ys ds e n l f =>
    cases ru
    obtain ⟨_, its, rv, o, ho, hc, m, hd⟩ := I.hok _ _ e
    have sh' := sh
    have sz' := sz
    rw [PyData.showable] at sh'
    rw [PyData.shown] at sz'
    have parts : RkAll X.prog X.w s.heap its ds := rk_all (fun i x d h1 h2 u q => (f i x d h1 h2).rk I (showableAll_mem sh' (List.mem_of_getElem? h2)) (Nat.le_trans (tupleText_mem_le (shownAll_mem (List.mem_of_getElem? h2))) sz') u q) l rv
    obtain ⟨⟨as, rs⟩, bs, mb, k⟩ := parts
    have rd : Reads s.heap (.ref a) (.tuple ds) as := .tuple ho hc hd rs
    have deep : PyData.depth (.tuple ds) = PyData.depthAll ds + 1 := by rw [PyData.depth]
    refine call_repr_slot (by omega) ⟨_, ho, hc⟩ PySem.F.slot_tuple_repr ?_
    rw [PyData.shown] at ends
    exact call_tuple_reprK ho hc hd (not_mem_of_deeper rd (by omega) mb) k g1 (fun b _ => Clear.nil b) (by omega) (fun _ _ e => e) (fun h' t tk kk => ⟨_, _, rfl, ends h' t tk kk⟩) sz'
  | dcv e n l f =>
    rw [PyData.showable, PyData.showableKv, noShow_not] at sh
    cases sh
  | @dct a kvs e n p =>
    cases ru
    obtain ⟨⟨as, rd⟩, _⟩ := all
    obtain ⟨_, hm, vs, rel, o, es, ep, e1, ex, dt, _, prs, _⟩ := (show ObjOk X.prog X.w H s.heap a (.dK kvs) from I.hok _ _ e)
    have deep : (PyData.dict (kvs.map fun p => (kD p.1, vD p.2))).depth ≤ 60 := dp
    have nos : sysModules ∉ as := by
      cases rd with
      | dict h1 h2 h3 h4 h5 =>
        have flatAll : ∀ {us : List Value} {ds : List PyData} {cs : List Addr}, ReadsAll s.heap us ds cs → (∀ d ∈ ds, d.depth = 0) → cs = [] := by
          intro us
          induction us with
          | nil => intro ds cs q _; cases q; rfl
          | cons u us ih =>
            intro ds cs q z
            cases q with
            | cons q1 q2 =>
              have z1 := z _ List.mem_cons_self
              have z2 := ih q2 fun d m => z d (List.mem_cons_of_mem _ m)
              subst z2
              cases q1 with
              | list => rw [PyData.depth] at z1; omega
              | tuple => rw [PyData.depth] at z1; omega
              | dict => rw [PyData.depth] at z1; omega
              | _ => rfl
        have k1 := flatAll h4 (fun d m => by
          obtain ⟨q, hq, rfl⟩ := List.mem_map.mp m
          obtain ⟨r, hr, rfl⟩ := List.mem_map.mp hq
          obtain ⟨kk, vv⟩ := r
          cases kk <;> simp only [kD, PyData.depth])
        have k2 := flatAll h5 (fun d m => by
          obtain ⟨q, hq, rfl⟩ := List.mem_map.mp m
          obtain ⟨r, hr, rfl⟩ := List.mem_map.mp hq
          obtain ⟨kk, vv⟩ := r
          cases vv <;> simp only [vD, PyData.depth])
        subst k1 k2
        intro z
        rcases List.mem_cons.mp z with q | q
        · rw [← q] at hm
          exact Bool.noConfusion ((beq_self_eq_true sysModules).symm.trans hm)
        · exact nomatch q
    exact repr_of_reads' rd sh (fun _ => nos) hg (by omega) (fun _ _ e => e) (fun h' t tk kk => ends h' t tk kk) sz
end
end Gd
namespace Lw
open PySem PySem.Spec PyProof.Rows L2 Gd
def topS (i : Nat) : Stmt := PySem.Challenge.pw_leastplaces_k36_whole_numbers_there_and.main.body.getD i (.Pass ⟨0, 0, 0, 0⟩)
abbrev sStream : Stmt := topS 18
abbrev sDraw : Stmt := topS 19
theorem scDraw : FnScope ["_law_stream_here", "_law_many", "_law_rest", "_law_turn", "_law_cell", "_law_mixed"] ["_law_stream_here", "_law_many"] (defScope sDraw) := ⟨rfl, rfl, rfl, by decide +kernel, rfl, by decide +kernel, by decide +kernel⟩

/-! ### the stream -/
/-- what the draws may change -/
abbrev Av (s a : Addr) : Addr → Prop := fun x => x = s ∨ x = a
structure Sm (H : Hp) (s a b : Addr) (n : Nat) : Prop where
  ex : ∃ (t : Int) (bigs cells : List Int), H s = some (.lst [.ref a, .ref b, .int t]) ∧ H a = some (.lst (bigs.map V.int)) ∧ H b = some (.lst (cells.map V.int)) ∧ (∀ c ∈ bigs, 0 ≤ c) ∧ (∀ c ∈ cells, 0 ≤ c) ∧ cells ≠ [] ∧
    cells.length ≤ 64 ∧ bigs.length ≤ 63 ∧ 0 ≤ t ∧ t ≤ n
  sa : s ≠ a
  sb : s ≠ b
  ab : a ≠ b
theorem Sm.keep {H H' : Hp} {s a b : Addr} {n : Nat} (x : Sm H s a b n) (k : Same H H') : Sm H' s a b n := by
  obtain ⟨⟨t, bigs, cells, h1, h2, h3, r⟩, p1, p2, p3⟩ := x
  exact ⟨⟨t, bigs, cells, k _ _ h1, k _ _ h2, k _ _ h3, r⟩, p1, p2, p3⟩
theorem Sm.mono {H : Hp} {s a b : Addr} {n m : Nat} (x : Sm H s a b n) (k : n ≤ m) : Sm H s a b m := by
  obtain ⟨⟨t, bigs, cells, h1, h2, h3, h4, h5, h6, h7, h8, h9, h10⟩, p1, p2, p3⟩ := x
  exact ⟨⟨t, bigs, cells, h1, h2, h3, h4, h5, h6, h7, h8, h9, by omega⟩, p1, p2, p3⟩
theorem same_upd {H : Hp} {p : Addr} {o : HO} (h : H p = none) : Same H (upd H p o) := fun b x e => by
  rw [upd_ne (ne_of_none e h)]
  exact e
theorem dpAll_ints {K : PySem.W.Frag} {H : Hp} : ∀ ns : List Int, DpAll K H (ns.map V.int) (ns.map PyData.int)
  | [] => .nil
  | n :: r => .cons (.int n) (dpAll_ints r)
theorem eqv_nil (ns : List Int) : PyData.eqv (.list (ns.map PyData.int)) (.list []) = ns.isEmpty := by
  cases ns <;> simp [PyData.eqv, PyData.eqvAll]

theorem ixN_cons {x : Int} {r : List Int} : ixN ((x :: r).map V.int).length 0 = some 0 := by
  unfold ixN
  rw [if_pos (Int.le_refl 0), if_pos (by rw [List.length_map, List.length_cons]; omega)]
  rfl
def spDraw : Sp := fun vs H Q _ => ∃ (s a b : Addr) (n : Nat) (m : Int), vs = [.ref s, .int m] ∧ Sm H s a b n ∧ n < 1000000 ∧ 0 < m ∧ m ≤ 10000000000000000000000000000000000000000 ∧
  ∀ H' r, Kq (Av s a) H H' → Sm H' s a b (n + 1) → 0 ≤ r → r < m → Q (.int r) H'
section
variable {P : Program} {w : World} {K : PySem.W.Frag} {mg : Str → Option Value} {base : Heap}
theorem ok_draw {f : Addr} {fd : FuncData} {k : Nat} (F : Fun K "_law_draw" "_law_draw" sDraw f fd) (ml : mg "len" = none) : FnOk P w K mg base CX0 (k + 1) f fd ["_law_stream_here", "_law_many"] spDraw := by
  refine F.ok scDraw (fun vs H Q E h => ?_) (fun cdv A outer st H vs Q E hr h => ?_)
  · obtain ⟨s, a, b, n, m, rfl, _⟩ := h
    rfl
  · obtain ⟨s, a, b, n, m, rfl, sm, hn, m0, m1, q⟩ := h
    have mIx : ∀ {i : Nat}, PlainIx (.Constant (.int 0) 0 ⟨i, i, i, i⟩) := fun _ _ => rfl
    refine ⟨_, pss_cons (ps_while PassesOwn.never (pt_cmpR (op_neD hr.units) (pe_ix ix_list (pv 0) pe_int (fun _ _ => rfl)) (pe_lst pa_nil) (nomark _))
        (pss_cons (ps_set (i := 2) scDraw.nd rfl (.inl rfl) (pe_ix ix_list (pe_ix ix_list (pv 0) pe_int (fun _ _ => rfl)) pe_int (fun _ _ => rfl)))
        (pss_cons (ps_if (pt_cmpR op_gt (pv 2) pe_int (nomark _))
          (pss_cons (ps_asg (pe_op op_fdivW (pv 2) (pv 1)) (pg_sub (pe_ix ix_list (pv 0) pe_int (fun _ _ => rfl)) pe_int set_list))
            (pss_one (ps_ret (pe_op op_mod (pv 2) (pv 1))))) pss_nil)
        (pss_one (ps_expr (pe_bm PySem.F.plainAttrs_list PySem.F.slot_list_pop PySem.F.type_list_pop mt_popAt (pe_ix ix_list (pv 0) pe_int (fun _ _ => rfl)) (pa_cons pe_int pa_nil)))))))
      (pss_cons (ps_set (i := 3) scDraw.nd rfl (.inl rfl) (pe_op op_add (pe_ix ix_list (pv 0) pe_int (fun _ _ => rfl)) pe_int))
      (pss_cons (ps_asg (pv 3) (pg_sub (pv 0) pe_int set_list))
      (pss_cons (ps_set (i := 4) scDraw.nd rfl (.inl rfl) (pe_op op_mod (pe_ix ix_list (pe_ix ix_list (pv 0) pe_int (fun _ _ => rfl))
          (pe_op op_mod (pv 3) (pe_callB call_len_seq (by rfl) ml PySem.boot_len (pa_cons (pe_ix ix_list (pv 0) pe_int (fun _ _ => rfl)) pa_nil))) (fun _ _ => rfl)) pe_int))
      (pss_cons (ps_set (i := 5) scDraw.nd rfl (.inl rfl) (pe_op op_mod (pe_op op_add (pe_op op_add (pe_op op_mul (pv 4) (pe_op op_add pe_int (pe_op op_mul pe_int (pv 3)))) (pe_op op_mul (pe_op op_mul pe_int (pv 3)) (pv 3))) pe_int) pe_int))
      (pss_one (ps_ret (pe_op op_mod (pe_op op_fdiv (pe_op op_mod (pe_op op_mul (pv 5) (pv 5)) pe_int) pe_int) (pv 1)))))))), ?_⟩
    refine ⟨fun c σ H1 => Kq (Av s a) H H1 ∧ Sm H1 s a b n ∧ (∃ y2, σ = [some (.ref s), some (.int m), y2, none, none, none]) ∧ ∃ bigs : List Int, H1 a = some (.lst (bigs.map V.int)) ∧ bigs.length = c, ?_, fun c σ H1 hw => ?_⟩
    · obtain ⟨⟨t, bigs, cells, hS, hA, _⟩, _⟩ := id sm
      exact ⟨_, Kq.refl _, sm, ⟨none, rfl⟩, bigs, hA, rfl⟩
    obtain ⟨kp, ⟨⟨t, bigs, cells, hS, hA, hB, bp, cp, cn, cl, bl, t0, tn⟩, sa, sb, ab⟩, ⟨y2, rfl⟩, bigs', hA', hc⟩ := hw
    have eb : bigs' = bigs := by
      have z := hA'.symm.trans hA
      have z2 : bigs'.map V.int = bigs.map V.int := HO.lst.inj (Option.some.inj z)
      exact (List.map_inj_right (fun x y e => V.int.inj e)).mp z2
    subst eb
    -- while _law_stream_here[0] != []
    refine ⟨.ref s, rfl, s, _, 0, .ref a, rfl, rfl, .inl (.inl hS), rfl, Nat.zero_le _, fun p np => ?_⟩
    have s1 : Same H1 (upd H1 p (.lst [])) := same_upd np
    refine ⟨.list (bigs'.map PyData.int), .list [], .lst (.inl (.inl (s1 _ _ hA))) (dpAll_ints _), .lst (.inl (.inl upd_same)) .nil, PySem.W.ke_shaped_ints _, by decide +kernel, _, rfl, ?_⟩
    have k1 : Kq (Av s a) H (upd H1 p (.lst [])) := kp.trans (Kq.of_same s1)
    rw [eqv_nil]
    cases bigs' with
    | cons x r =>
      refine iteT ?_
      have x0 : 0 ≤ x := bp x List.mem_cons_self
      refine ⟨fun σ' H' => Kq (Av s a) H H' ∧ Sm H' s a b n ∧ (∃ y2, σ' = [some (.ref s), some (.int m), y2, none, none, none]) ∧ H' a = some (.lst (r.map V.int)), fun σ' H' z => ⟨r.length, by rw [← hc]; exact Nat.lt_succ_self _, z.1, z.2.1, z.2.2.1, r, z.2.2.2, rfl⟩, ?_⟩
      -- _law_rest = _law_stream_here[0][0]
      refine ⟨.ref s, rfl, s, _, 0, .ref a, rfl, rfl, .inl (.inl (s1 _ _ hS)), rfl, a, _, 0, .int x, rfl, rfl, .inl (.inl (s1 _ _ hA)), at_of (j := 0) rfl rfl, ?_⟩
      -- if _law_rest > 0
      refine ⟨.int x, rfl, x, 0, rfl, rfl, _, rfl, ite2 (fun e => ?_) (fun e => ?_)⟩
      · have e' : 0 < x := of_decide_eq_true e
        refine ⟨.int x, rfl, .int m, rfl, x, m, rfl, rfl, wide_div (b := 140) m0 (by omega) (by decide) (by decide), .ref s, rfl, s, _, 0, .ref a, rfl, rfl, .inl (.inl (s1 _ _ hS)), rfl, a, _, 0, 0, rfl, rfl, s1 _ _ hA, ixN_cons, ?_⟩
        refine ⟨.int x, rfl, .int m, rfl, x, m, rfl, rfl, m0, ?_⟩
        refine q _ _ (fun z o hz nz => ?_) ?_ (Int.emod_nonneg _ (by omega)) (Int.emod_lt_of_pos _ m0)
        · rw [upd_ne (fun e => nz (.inr e))]
          exact k1 z o hz nz
        · refine ⟨⟨t, (x / m) :: r, cells, ?_, ?_, ?_, ?_, cp, cn, cl, bl, t0, by omega⟩, sa, sb, ab⟩
          · rw [upd_ne sa]
            exact s1 _ _ hS
          · rw [upd_same]
            rfl
          · rw [upd_ne (Ne.symm ab)]
            exact s1 _ _ hB
          · intro c hc
            rcases List.mem_cons.mp hc with rfl | hc
            · exact Int.ediv_nonneg x0 (by omega)
            · exact bp c (List.mem_cons_of_mem _ hc)
      · -- _law_stream_here[0].pop(0)
        refine ⟨.ref s, rfl, s, _, 0, .ref a, rfl, rfl, .inl (.inl (s1 _ _ hS)), rfl, .inl ⟨rfl, _, .inl (.inl (s1 _ _ hA))⟩, a, _, 0, 0, .int x, rfl, rfl, s1 _ _ hA, by decide, by decide, (ixN_seq ixN_cons).1, rfl, ?_⟩
        refine ⟨fun z o hz nz => ?_, ⟨⟨t, r, cells, ?_, ?_, ?_, fun c hc => bp c (List.mem_cons_of_mem _ hc), cp, cn, cl, Nat.le_of_succ_le bl, t0, tn⟩, sa, sb, ab⟩, ⟨_, rfl⟩, ?_⟩
        · rw [upd_ne (fun e => nz (.inr e))]
          exact k1 z o hz nz
        · rw [upd_ne sa]
          exact s1 _ _ hS
        · rw [upd_same]
          rfl
        · rw [upd_ne (Ne.symm ab)]
          exact s1 _ _ hB
        · rw [upd_same]
          rfl
    | nil =>
      refine iteF ?_
      -- _law_turn = _law_stream_here[2] + 1
      refine ⟨.ref s, rfl, s, _, 2, .int t, rfl, rfl, .inl (.inl (s1 _ _ hS)), rfl, t, 1, rfl, rfl, ?_⟩
      -- _law_stream_here[2] = _law_turn
      refine ⟨.int (t + 1), rfl, .ref s, rfl, s, _, 2, 2, rfl, rfl, s1 _ _ hS, rfl, ?_⟩
      have gS : (upd (upd H1 p (.lst [])) s (.lst [.ref a, .ref b, .int (t + 1)])) s = some (.lst [.ref a, .ref b, .int (t + 1)]) := upd_same
      have gB : (upd (upd H1 p (.lst [])) s (.lst [.ref a, .ref b, .int (t + 1)])) b = some (.lst (cells.map V.int)) := by
        rw [upd_ne (Ne.symm sb)]
        exact s1 _ _ hB
      have gA : (upd (upd H1 p (.lst [])) s (.lst [.ref a, .ref b, .int (t + 1)])) a = some (.lst (([] : List Int).map V.int)) := by
        rw [upd_ne (Ne.symm sa)]
        exact s1 _ _ hA
      have lpos : 0 < cells.length := List.length_pos_iff.mpr cn
      have ml1 : (0 : Int) < ((cells.map V.int).length : Int) := by rw [List.length_map]; omega
      obtain ⟨j, hj, hj2⟩ : ∃ j : Nat, (t + 1) % ((cells.map V.int).length : Int) = (j : Int) ∧ j < cells.length := by
        refine ⟨((t + 1) % ((cells.map V.int).length : Int)).toNat, ?_, ?_⟩
        · rw [Int.toNat_of_nonneg (Int.emod_nonneg _ (by omega))]
        · have z := Int.emod_lt_of_pos (t + 1) ml1
          rw [List.length_map] at z ⊢
          have z0 : 0 ≤ (t + 1) % (cells.length : Int) := Int.emod_nonneg _ (by omega)
          omega
      have gj : (cells.map V.int)[j]? = some (.int cells[j]) := by
        rw [List.getElem?_map, List.getElem?_eq_getElem hj2]
        rfl
      -- _law_cell
      refine ⟨.ref s, rfl, s, _, 1, .ref b, rfl, rfl, .inl (.inl gS), rfl, .int (t + 1), rfl, .ref s, rfl, s, _, 1, .ref b, rfl, rfl, .inl (.inl gS), rfl, b, _, rfl, .inl (.inl (.inl gB)), t + 1, _, rfl, rfl, ml1,
        b, _, _, .int cells[j], rfl, rfl, .inl (.inl gB), at_of hj gj, cells[j], 2147483587, rfl, rfl, by show (0 : Int) < 2147483587; decide, ?_⟩
      have c0 : 0 ≤ cells[j] % 2147483587 := Int.emod_nonneg _ (by decide)
      have c1 : cells[j] % 2147483587 < 2147483587 := Int.emod_lt_of_pos _ (by decide)
      -- _law_mixed
      refine ⟨_, rfl, _, rfl, 48271, t + 1, rfl, rfl, .inl ⟨by decide, by decide⟩, 40692, _, rfl, rfl, _, _, rfl, rfl, .inl ⟨by omega, by omega⟩, _, rfl, 69621, t + 1, rfl, rfl, .inl ⟨by decide, by decide⟩, _, rfl, _, t + 1, rfl, rfl, .inr ⟨by omega, by omega⟩, _, _, rfl, rfl, _, 23, rfl, rfl, _, 2147483647, rfl, rfl, by show (0 : Int) < 2147483647; decide, ?_⟩
      refine ⟨_, rfl, _, rfl, _, _, rfl, rfl, .inl ⟨?_, ?_⟩, _, 2147483629, rfl, rfl, by show (0 : Int) < 2147483629; decide, _, 16, rfl, rfl, ⟨by decide, by decide⟩, .int m, rfl, _, m, rfl, rfl, m0, ?_⟩
      · exact Int.lt_of_lt_of_le (by decide) (Int.emod_nonneg _ (by decide))
      · exact Int.lt_trans (Int.emod_lt_of_pos _ (by decide)) (by decide)
      · refine q _ _ (fun z o hz nz => ?_) ?_ (Int.emod_nonneg _ (by omega)) (Int.emod_lt_of_pos _ m0)
        · show (upd (upd H1 p (.lst [])) s (.lst [.ref a, .ref b, .int (t + 1)])) z = some o
          rw [upd_ne (fun e => nz (.inl e))]
          exact k1 z o hz nz
        · exact ⟨⟨t + 1, [], cells, gS, gA, gB, bp, cp, cn, cl, bl, by omega, by omega⟩, sa, sb, ab⟩
end
end Lw
namespace Lw
open PySem PySem.Spec PyProof.Rows L2 Gd
theorem scStream : FnScope ["_law_script", "_law_cells", "_law_cell"] ["_law_script"] (defScope sStream) := ⟨rfl, rfl, rfl, by decide +kernel, rfl, by decide +kernel, by decide +kernel⟩
def absI (i : Int) : Int := if i < 0 then -i else i
theorem absI_nn (i : Int) : 0 ≤ absI i := by unfold absI; split <;> omega
theorem getm {α : Type} {ns : List Int} {f : Int → α} {i : Nat} {x : α} (h : (ns.map f)[i]? = some x) : ∃ n, ns[i]? = some n ∧ x = f n := by
  rw [List.getElem?_map] at h
  cases e : ns[i]? with
  | none => rw [e] at h; cases h
  | some n => rw [e] at h; exact ⟨n, rfl, (Option.some.inj h).symm⟩
theorem small_of {n : Nat} (h : n ≤ 100000) : n < sizeLine := Nat.lt_of_le_of_lt h (by decide)
def spStream (K : PySem.W.Frag) : Sp := fun vs H Q _ => ∃ (sc : Addr) (ns : List Int), vs = [.ref sc] ∧ SqL K H sc (ns.map V.int) ∧ ns.length ≤ 63 ∧
  ∀ H' s a b, Same H H' → H s = none → H a = none → H b = none → Sm H' s a b 0 → Q (.ref s) H'
section
variable {P : Program} {w : World} {K : PySem.W.Frag} {mg : Str → Option Value} {base : Heap}
theorem ok_stream {f : Addr} {fd : FuncData} {k : Nat} (F : Fun K "_law_stream" "_law_stream" sStream f fd) (ml : mg "len" = none) (ma : mg "abs" = none) : FnOk P w K mg base CX0 (k + 1) f fd ["_law_script"] (spStream K) := by
  refine F.ok scStream (fun vs H Q E h => ?_) (fun cdv A outer st H vs Q E hr h => ?_)
  · obtain ⟨s, ns, rfl, _⟩ := h
    rfl
  · obtain ⟨sc, ns, rfl, hS, hl, q⟩ := h
    refine ⟨_, pss_cons (ps_setLc (i := 1) (own := [("_law_cell", 2)]) (g := gName 2) (tt := tYes) rfl scStream.nd rfl rfl (sw_true rfl rfl rfl (by decide +kernel)) (pi_list (pv 0))
        (blkOk_by (N := ["_law_script", "_law_cells", "_law_cell"]) (sc := defScope sStream) (by decide +kernel)) (fun _ _ _ _ _ => pg_name (i := 2) scStream.nd rfl (Or.inl rfl)) (fun _ _ _ _ _ => pts_nil)
        (fun _ _ _ _ _ => pe_callB call_abs (by rfl) ma (by decide +kernel) (pa_cons (pv 2) pa_nil)))
      (pss_one (ps_ret (pe_lst (pa_cons (pe_lc (own := [("_law_cell", 2)]) (g := gName 2) (by rfl) scStream.nd (pi_list (pv 1)) (blkOk_by (N := ["_law_script", "_law_cells", "_law_cell"]) (sc := defScope sStream) (by decide +kernel))
          (fun _ _ _ _ _ => pg_name (i := 2) scStream.nd rfl (Or.inl rfl)) (fun _ _ _ _ _ => pts_one (pt_cmpR op_ge (pv 2) (pe_op op_pow pe_int pe_int) (nomark _))) (fun _ _ _ _ _ => pv 2))
        (pa_cons (pe_op op_cat (pv 1) (pe_lst (pa_cons (pe_op op_add (pe_callB call_len_seq (by rfl) ml PySem.boot_len (pa_cons (pv 1) pa_nil)) pe_int) pa_nil))) (pa_cons pe_int pa_nil)))))), ?_⟩
    -- _law_cells
    refine ⟨.ref sc, rfl, sc, rfl, ⟨_, hS⟩, fun D nD => lc_list (xs := ns.map V.int) (fun i H1 => Same H H1 ∧ H1 D = some (.lst ((ns.take i).map fun n => V.int (absI n)))) ⟨same_upd nD, upd_same⟩ (fun i H1 _ p => p.1.seq hS) (fun i x H1 hx p => ?_) (fun H1 p => ?_)⟩
    · obtain ⟨n, hn, rfl⟩ := getm hx
      obtain ⟨sm, hD⟩ := p
      refine ⟨rfl, .int n, rfl, n, rfl, _, hD, ?_, fun b o e => ?_, ?_⟩
      · rw [List.length_map, List.length_take]
        exact small_of (by omega)
      · rw [upd_ne (ne_of_none e nD)]
        exact sm _ _ e
      · rw [upd_same, List.take_add_one, hn, List.map_append]
        rfl
    · obtain ⟨sm1, hD1⟩ := p
      rw [List.length_map, List.take_length] at hD1
      have hD1' : H1 D = some (.lst ((ns.map absI).map V.int)) := by
        rw [hD1, List.map_map]
        rfl
      -- the large cells
      refine ⟨.ref D, rfl, D, rfl, ⟨_, .inl (.inl hD1')⟩, fun A1 nA => lc_list (xs := (ns.map absI).map V.int) (fun i H2 => Same H1 H2 ∧ ∃ bs : List Int, H2 A1 = some (.lst (bs.map V.int)) ∧ bs.length ≤ i ∧ ∀ c ∈ bs, 0 ≤ c) ⟨same_upd nA, [], upd_same, Nat.le_refl _, fun _ z => nomatch z⟩ (fun i H2 _ p => .inl (.inl (p.1 _ _ hD1'))) (fun i x H2 hx p => ?_) (fun H2 p => ?_)⟩
      · obtain ⟨m, hm, rfl⟩ := getm hx
        obtain ⟨n, hn, rfl⟩ := getm hm
        obtain ⟨sm2, bs, hA, lb, pb⟩ := p
        refine ⟨rfl, .int (absI n), rfl, 10, 18, rfl, rfl, ⟨by decide, by decide, by decide⟩, absI n, _, rfl, rfl, _, rfl, ite2 (fun e => ?_) (fun e => ?_)⟩
        · have hi : i < ns.length := (List.getElem?_eq_some_iff.mp hn).1
          refine ⟨.int (absI n), rfl, _, hA, by rw [List.length_map]; exact small_of (by omega), fun b o e => ?_, bs ++ [absI n], ?_, ?_, fun c hc => ?_⟩
          · rw [upd_ne (ne_of_none e nA)]
            exact sm2 _ _ e
          · rw [upd_same, List.map_append]
            rfl
          · rw [List.length_append]
            exact Nat.add_le_add_right lb 1
          · rcases List.mem_append.mp hc with hc | hc
            · exact pb c hc
            · rw [List.mem_singleton.mp hc]
              exact absI_nn n
        · exact ⟨sm2, bs, hA, by omega, pb⟩
      · obtain ⟨sm2, bs, hA, lb, pb⟩ := p
        have lb' : bs.length ≤ 63 := by
          rw [List.length_map, List.length_map] at lb
          omega
        have hD2 := sm2 _ _ hD1'
        -- _law_cells + [len(_law_cells) + 19]
        refine ⟨.ref D, rfl, .ref D, rfl, D, _, rfl, .inl (.inl (.inl hD2)), _, 19, rfl, rfl, by show 1 ≤ sizeLine; decide, fun p1 n1 => ?_⟩
        have s3 := same_upd (o := .lst [.int (((ns.map absI).map V.int).length + 19)]) n1
        refine ⟨D, p1, _, _, rfl, rfl, s3 _ _ hD2, upd_same, ?_, fun B nB => ?_⟩
        · rw [List.length_map, List.length_map]
          exact Nat.le_of_lt (small_of (by show ns.length + 1 ≤ 100000; omega))
        · have s4 := same_upd (o := .lst ((ns.map absI).map V.int ++ [.int (((ns.map absI).map V.int).length + 19)])) nB
          refine ⟨by show 3 ≤ sizeLine; decide, fun s nS => ?_⟩
          have s5 := same_upd (o := .lst [.ref A1, .ref B, .int 0]) nS
          have all := sm1.trans (sm2.trans (s3.trans (s4.trans s5)))
          have g3 := s3 _ _ hA
          have g4 := s4 _ _ g3
          have gB : (upd (upd (upd H2 p1 (.lst [.int (((ns.map absI).map V.int).length + 19)])) B (.lst ((ns.map absI).map V.int ++ [.int (((ns.map absI).map V.int).length + 19)]))) s (.lst [.ref A1, .ref B, .int 0])) B = _ := s5 _ _ upd_same
          refine q _ s A1 B all ((sm1.trans (sm2.trans (s3.trans s4))).free nS) (sm1.free nA) ((sm1.trans (sm2.trans s3)).free nB) ⟨⟨0, bs, ns.map absI ++ [((ns.length : Int) + 19)], upd_same, s5 _ _ g4, ?_, pb, fun c hc => ?_, by simp, ?_, lb', Int.le_refl _, Int.le_refl _⟩, ?_, ?_, ?_⟩
          · rw [gB, List.map_append, List.length_map, List.length_map]
            rfl
          · rcases List.mem_append.mp hc with hc | hc
            · obtain ⟨n, _, rfl⟩ := List.mem_map.mp hc
              exact absI_nn n
            · rw [List.mem_singleton.mp hc]
              omega
          · rw [List.length_append, List.length_map]
            show ns.length + 1 ≤ 64
            omega
          · exact fun e => (ne_of_none g4 nS) e.symm
          · exact fun e => (ne_of_none (H := upd (upd H2 p1 _) B _) upd_same nS) e.symm
          · exact ne_of_none g3 nB
end
end Lw
/-! xs[::k] of a list, k one of 1 and -1 and not written; t[::-1] of a tuple; t == () -/
namespace Gd
open PySem PySem.Spec PyProof.Rows L2
theorem pick_all (its : Array Value) : slicePick its none none (some 1) = its := by
  have hb : sliceBounds none none (some 1) its.size = (0, (its.size : Int), 1) := by simp [sliceBounds]
  have hr : sliceRange 0 (its.size : Int) 1 = List.range its.size := by
    unfold sliceRange
    by_cases h : (0 : Int) < its.size
    · have e : ((its.size : Int) - 0 + 1 - 1) / 1 = its.size := by rw [Int.ediv_one]; omega
      simp only [show (1 : Int) > 0 by decide, if_true, h, e, Int.toNat_natCast]
      refine (List.map_congr_left (g := id) fun k _ => ?_).trans (List.map_id _)
      show (0 + 1 * (k : Int)).toNat = k
      omega
    · have e : its.size = 0 := by omega
      rw [e]
      simp
  unfold slicePick
  rw [hb]
  dsimp only
  rw [hr, PySem.W.krv_all]
section
variable {X : Cx}
/-- what xs[::k] asks -/
def tStep (K : PySem.W.Frag) (te ts : TE) : TE := fun σ H Q => te σ H fun x H1 => ts σ H1 fun y H2 => ∃ a xs k, x = .ref a ∧ SqL K H2 a xs ∧ y = .int k ∧ (k = 1 ∨ k = -1) ∧ ∀ zs p, (zs = xs ∨ zs = xs.reverse) → H2 p = none → Q (.ref p) (upd H2 p (.lst zs))
theorem pe_step {e st : Expr} {te ts : TE} {p3 pos : Pos} (he : PE X e te) (hst : PE X st ts)
    (hops : ∀ o i : Value, subscripted (.Slice none none (some st) p3) false o i = operate [o, i] (getItem o i) := by intro _ _; rfl) :
    PE X (.Subscript e (.Slice none none (some st) p3) pos) (tStep X.K te ts) := by
  refine ⟨fun pins s σ H Q I want => ?_⟩
  refine Subscript_ (thn (he.run pins s σ H _ I want) ?_)
  rintro v s1 ⟨x, H1, I1, r1, want1⟩
  refine wpAny_Slice (thn (po_none.run pins s1 σ H1 (fun o G => o = none ∧ G = H1) I1 ⟨rfl, rfl⟩) ?_)
  rintro vl s2 ⟨l, G2, I2, pl, rfl, rfl⟩
  refine thn (po_none.run pins s2 σ G2 (fun o G => o = none ∧ G = G2) I2 ⟨rfl, rfl⟩) ?_
  rintro vu s3 ⟨u, G3, I3, pu, rfl, rfl⟩
  rw [evalPart_some]
  refine thn (hst.run pins s3 σ G3 _ I3 want1) ?_
  rintro vs s4 ⟨y, H4, I4, ry, a, xs, k, rfl, hx, rfl, hk, want2⟩
  cases r1
  have ps : IsPart vs (some k) := by
    obtain ⟨t, rfl⟩ := ry
    exact IsPart.int _ _
  have I5 : Inv X pins σ H4 { s4 with heap := s4.heap.push { cls := .type "slice", data := .fields #[vl, vu, vs] } } := I4.kept (t' := s4.toks) fun b ob z => Heap.get?_push_of_some _ z
  obtain ⟨its, r, ht, hz⟩ := I5.list hx
  have hlen := r.length
  refine tail_any (ops := [.ref a, .ref s4.heap.objs.size]) ht.isList.typeIs (PySem.slot_list_getitem.lookup) ?_ (hops _ _)
  refine wpAny_getItem_list_slice ht.isList (Heap.IsSliceOf.new _ vl vu vs) pl pu ps (by rcases hk with rfl | rfl <;> decide) ?_ (by rw [List.size_toArray]; omega)
  rcases hk with rfl | rfl
  · rw [pick_all]
    refine ⟨.ref _, _, I5.laid (t' := s4.toks) (o := .lst xs) (fun b ob z => Heap.get?_push_of_some _ z) (Nat.le_refl _) ?_, rfl, want2 _ _ (.inl rfl) (I5.hok.fresh (Nat.le_refl _))⟩
    exact ⟨hz, _, 0, r, Heap.get?_push_size _ rfl⟩
  · rw [PySem.W.krv_pick]
    refine ⟨.ref _, _, I5.laid (t' := s4.toks) (o := .lst xs.reverse) (fun b ob z => Heap.get?_push_of_some _ z) (Nat.le_refl _) ?_, rfl, want2 _ _ (.inr rfl) (I5.hok.fresh (Nat.le_refl _))⟩
    exact ⟨by rw [List.length_reverse]; exact hz, _, 0, r.reverse, Heap.get?_push_size _ rfl⟩
end
end Gd
/-! enumerate(t), t a tuple; t == (), t any tuple -/
namespace Gd
open PySem PySem.Spec PyProof.Rows L2
theorem meets_enum1 {v : Value} {o : Obj} {Hh : Heap → Prop} (B : Begins v o Hh) : Meets (Builtin.«enumerate.__new__» ⟨[.type "enumerate", v], []⟩) (fun _ R s => Hh s.heap ∧
    R (.ok (.ret (.ref (s.heap.push o).objs.size))) { s with heap := (s.heap.push o).push { cls := .type "enumerate", data := .fields #[.none, .bool false, .ref s.heap.objs.size, rawInt 0, .none, .none] } }) :=
  .of_wp fun prog w A R s z => by
    obtain ⟨hp, g, d, tk, os⟩ := s
    obtain ⟨z1, z2⟩ := z
    have hsub := sub_enumerate
    have go : ∀ {A' : Around} {E : Value → Shared → Prop} {Q : Value → Shared → Prop}, Q (.ref hp.objs.size) ⟨hp.push o, g, d, tk, os⟩ → wpAny (model prog w) A' (pyIter v) Q E ⟨hp, g, d, tk, os⟩ := by
      intro A' E Q q
      exact B.iter prog w A' E _ Q z1 q
    wp_walk using go
    refine wpAny_stack_any fun st => wpAny_pure ?_
    split
    · rename_i c _ _ _ _ _
      cases (c == Value.type "enumerate") <;> (wp_walk using go; exact ⟨_, rfl, z2⟩)
    · wp_walk using go
      exact ⟨_, rfl, z2⟩
section
variable {prog : Program} {w : World} {A : Around} {E : Value → Shared → Prop} {s : Shared}
theorem enum1_begins {v : Value} {o : Obj} {Hh : Heap → Prop} {Q : Value → Shared → Prop} (B : Begins v o Hh) (z : Hh s.heap)
    (q : ∀ h', IsEnum h' (s.heap.objs.size + 1) s.heap.objs.size 0 .none → h'.get? s.heap.objs.size = some o → (∀ b o, s.heap.get? b = some o → h'.get? b = some o) → Q (.ref (s.heap.objs.size + 1)) { s with heap := h' }) :
    wpAny (model prog w) A (call (.type "enumerate") [v]) Q E s := by
  refine callType_new F.called_enumerate (by decide) (F.typeCall_enumerate_1 _) (F.newCall_enumerate_1 _) (fun obj => F.args_object_init_2 obj _) F.entry_enumerate_new (meets_enum1 B) ⟨z, ?_⟩
  have size1 : (s.heap.push o).objs.size = s.heap.objs.size + 1 := Heap.size_push ..
  show _ ∧ _
  rw [size1]
  have isE : IsEnum ((s.heap.push o).push { cls := .type "enumerate", data := .fields #[.none, .bool false, .ref s.heap.objs.size, rawInt 0, .none, .none] }) (s.heap.objs.size + 1) s.heap.objs.size 0 .none := by
    have y := Heap.get?_push_size (s.heap.push o) (o := { cls := .type "enumerate", data := .fields #[.none, .bool false, .ref s.heap.objs.size, rawInt 0, .none, .none] }) rfl
    rw [size1] at y
    exact y
  exact ⟨⟨_, isE, rfl⟩, q _ isE (Heap.get?_push_of_some _ (Heap.get?_push_size _ B.free)) fun b o x => Heap.get?_push_of_some _ (Heap.get?_push_of_some _ x)⟩
end
/-- the tuple at a, each item in a new pair with its place -/
def ItT (K : PySem.W.Frag) (a : Addr) : It :=
  ⟨fun i H => ∃ (xs : List V) (x : V), SqT K H a xs ∧ xs[i]? = some x, fun i H v H' => ∃ T x, v = .ref T ∧ H T = none ∧ H' = upd H T (.tup [.int (i : Nat), x]) ∧ ∀ xs, SqT K H a xs → xs[i]? = some x, fun i H => ∃ xs : List V, SqT K H a xs ∧ xs.length = i⟩
theorem turn_T {P : Program} {w : World} {K : PySem.W.Frag} {elts : List Expr} {kk : Nat} {tpos : Pos} (t e it : Addr) (hti : t ≠ it) (hei : e ≠ it) (het : e ≠ t) :
    Turn P w K (.Tuple elts kk tpos) (ItT K t) [e, it] e (fun i h => (∃ old, IsEnum h e it ((i : Nat) : Int) old) ∧ h.IsTupleIter it t i) where
  mem := by simp
  obj := by
    rintro i h ⟨⟨old, he⟩, ⟨o, ho, hc, hd⟩⟩ b hb
    rcases List.mem_cons.mp hb with z | z
    · subst z
      exact ⟨_, he, fun v q => nomatch q⟩
    · have z2 := List.mem_singleton.mp z
      subst z2
      exact ⟨o, ho, fun v q => by rw [hd] at q; cases q⟩
  keep := by
    rintro i h h' ⟨⟨old, he⟩, hi⟩ k
    exact ⟨⟨old, k e (by simp) _ he⟩, hi.at fun o q => k it (by simp) o q⟩
  item := by
    rintro X rfl rfl rfl hc i pins s σ H E I hf ⟨⟨old, he⟩, hit⟩ ⟨xs, x, hq, hx⟩
    obtain ⟨its, rv, tup, hz⟩ := I.tuple hq
    obtain ⟨u, hu, ru⟩ := rv.get hx
    have hel : e < s.heap.objs.size := Heap.lt_size he
    have hil : it < s.heap.objs.size := by
      obtain ⟨_, z, _⟩ := id hit
      exact Heap.lt_size z
    have hlt : i < its.toArray.size := by
      rw [List.size_toArray]
      exact (List.getElem?_eq_some_iff.mp hu).1
    have isT : s.heap.IsTuple t its.toArray := tup
    refine wpAny_pyNext_enum_itemD (Draws.tuple (prog := X.prog) (w := X.w) (A := X.A.in1) (show X.A.in1.handled = none from I.ok.hd hc) it t hti its.toArray) he ⟨hit, isT⟩ hlt hei (by simp [hei, het]) ?_
    rintro y h' tk hy out ⟨hit', _⟩ hT hsz hk
    have ey : y = u := by
      have z : its[i]? = some y := by simpa using hy
      rw [hu] at z
      exact (Option.some.inj z).symm
    subst ey
    refine ⟨_, rfl, wpAny_letOwnedTupleGo_enum (s := { s with heap := h', toks := tk + 1 }) out ?_⟩
    intro h2 he2 sb
    have hT2 : h2.get? s.heap.objs.size = some { cls := .type "tuple", data := .seq #[.int i tk, y] } := (sb.2 _ (Nat.ne_of_gt hel)).trans hT
    have new : ObjOk X.prog X.w (upd H s.heap.objs.size (.tup [.int (i : Nat), x])) h2 s.heap.objs.size (.tup [.int (i : Nat), x]) :=
      ⟨by show 2 ≤ sizeLine; decide, [.int i tk, y], .cons ⟨_, rfl⟩ (.cons ru .nil), ⟨_, hT2, rfl, _, rfl⟩⟩
    have old2 : ∀ b ob, b ∉ [e, it] → s.heap.get? b = some ob → h2.get? b = some ob := by
      intro b ob nb z
      have n1 : b ≠ e := fun q => nb (by simp [q])
      have n2 : b ≠ it := fun q => nb (by simp [q])
      exact (sb.2 b n1).trans (hk b ob n1 n2 z)
    have I1 : Inv X pins σ (upd H s.heap.objs.size (.tup [.int (i : Nat), x])) { s with heap := h2, toks := tk + 1 } := I.turnedNew (ch := [e, it]) old2 hf (Nat.le_refl _) new
    refine ⟨.ref s.heap.objs.size, _, I1, rfl, ⟨_, x, rfl, I.hok.fresh (Nat.le_refl _), rfl, fun ys hy => ?_⟩, ⟨⟨y, ?_⟩, hit'.at fun o z => (sb.2 it (Ne.symm hei)).trans z⟩, fun b hb => ?_⟩
    · rw [I.tuple_inj hy hq]
      exact hx
    · have e1 : ((i + 1 : Nat) : Int) = (i : Int) + 1 := by omega
      rw [e1]
      exact he2
    · have lt : b < s.heap.objs.size := by
        rcases List.mem_cons.mp hb with z | z
        · rw [z]
          exact hel
        · rw [List.mem_singleton.mp z]
          exact hil
      rw [upd_ne (Nat.ne_of_lt lt)]
      exact (hf b hb).1
  done := by
    rintro X rfl rfl rfl hc i pins s σ H E I hf ⟨⟨old, he⟩, hit⟩ ⟨xs, hq, hx⟩
    obtain ⟨its, rv, tup, hz⟩ := I.tuple hq
    obtain ⟨f0, f1, f2, f3, f4, f5⟩ := hf it (by simp)
    have isT : s.heap.IsTuple t its.toArray := tup
    have hsz : its.toArray.size = i := by
      rw [List.size_toArray, ← rv.length]
      exact hx
    refine wpAny_pyNext_enum_endD (Draws.tuple (prog := X.prog) (w := X.w) (A := X.A.in1) (show X.A.in1.handled = none from I.ok.hd hc) it t hti its.toArray) he ⟨by rw [hsz]; exact hit, isT⟩ ?_
    intro h' eb
    exact ⟨rfl, I.turned (t' := s.toks) (fun b o hb z => eb b o hb z) f0 f1 f3 f4 f5⟩
  self := by
    rintro A i s Q E ⟨⟨old, he⟩, _⟩ q
    exact wpAny_pyIter_enum he q
def iEnumT (K : PySem.W.Frag) (ta : TA) : TI := fun σ H R => ta σ H fun vs H1 => ∃ a xs, vs = [.ref a] ∧ SqT K H1 a xs ∧ R (ItT K a) H1
theorem pi_enumT {X : Cx} {e : Expr} {ta : TA} {p pos tpos : Pos} {elts : List Expr} {kk : Nat} (hg : Gl X "enumerate") (hm : X.mg "enumerate" = none) (ha : PA X [e] ta) (hs : starEach [e] X.env = [(false, eval e X.env)] := by rfl) :
    PI X (.Tuple elts kk tpos) (.Call (.Name "enumerate" p) [e] [] pos) (iEnumT X.K ta) := by
  refine ⟨fun pins s σ H R I want => ?_⟩
  refine Call_ (ld_blt I hg hm boot_enumerate (PyProof.Rows.callWith_type1 (thn (ha.run pos pins s σ H _ I want) ?_) hs rfl))
  rintro us s1 ⟨vs, H1, I1, r1, t, xs, rfl, hq, want1⟩
  obtain ⟨u, rfl, ru⟩ := vals1 r1
  cases ru
  obtain ⟨its, rv, tup, hz⟩ := I1.tuple hq
  have isT : s1.heap.IsTuple t its.toArray := tup
  have tl : t < s1.heap.objs.size := by
    obtain ⟨o, z, _⟩ := id isT
    exact Heap.lt_size z
  refine enum1_begins (begins_tuple t its.toArray) isT ?_
  intro h' he hit hk
  refine wpAny_pyIter_enum he ?_
  have I2 : Inv X pins σ H1 { s1 with heap := h' } := I1.kept (t' := s1.toks) hk
  refine ⟨s1.heap.objs.size + 1, [s1.heap.objs.size + 1, s1.heap.objs.size], _, _, H1, rfl, I2, turn_T t (s1.heap.objs.size + 1) s1.heap.objs.size (Nat.ne_of_lt tl) (Nat.succ_ne_self _) (Nat.ne_of_gt (Nat.lt_succ_of_lt tl)), ⟨⟨.none, he⟩, ⟨_, hit, rfl, rfl⟩⟩, fun b hb => ?_, want1⟩
  have le : s1.heap.objs.size ≤ b := by
    rcases List.mem_cons.mp hb with z | z
    · rw [z]
      exact Nat.le_add_right _ _
    · rw [List.mem_singleton.mp z]
      exact Nat.le_refl _
  exact I1.fpOk le (I1.hok.fresh le)
section
variable {X : Cx}
/-- t == (), t any tuple -/
theorem op_eqNil (hu : X.A.units < cLine) : OpR X (compareOp .Eq) (fun x y H Q => ∃ a b xs, x = .ref a ∧ y = .ref b ∧ SqT X.K H a xs ∧ SqT X.K H b [] ∧ Q (.bl xs.isEmpty) H) := by
  intro pins s σ H x y v u Q I rx ry want
  obtain ⟨a, b, xs, rfl, rfl, ha, hb, q⟩ := want
  cases rx
  cases ry
  obtain ⟨its, rv, t1, _⟩ := I.tuple ha
  obtain ⟨its2, rv2, t2, _⟩ := I.tuple hb
  cases rv2
  have i1 : s.heap.IsTuple a its.toArray := t1
  have i2 : s.heap.IsTuple b ([] : List Value).toArray := t2
  have rc := PySem.SeqAt.RcAt.tuples (A := X.A) (e := fun _ => true) i1 i2 hu (fun j _ h2 => absurd h2 (by simp))
  refine rc X.prog X.w X.xe _ ⟨.bl xs.isEmpty, H, I, ?_, q⟩
  cases rv with
  | nil => rfl
  | cons _ _ => rfl
end
end Gd
/-! t[::-1] of a tuple -/
namespace Gd
open PySem PySem.Spec PyProof.Rows L2
section
variable {prog : Program} {w : World} {A : Around} {E : Value → Shared → Prop} {s : Shared}
theorem applied_back {sl : Addr} {vl vu : Value} {tk : Tok} {n : Nat} {Q : Int × Int × Nat → Shared → Prop} (hs : s.heap.IsSliceOf sl vl vu (.int (-1) tk)) (pl : IsPart vl none) (pu : IsPart vu none)
    (q : Q ((n : Int) - 1, -1, n) s) : wpAny (model prog w) A (Builtin.Slice.sliceApplied (.ref sl) (pure (n : Int))) Q E s := by
  obtain ⟨o, ho, hc, hd⟩ := id hs
  unfold Builtin.Slice.sliceApplied Builtin.Slice.sliceFields
  refine wpAny_bind (wpAny_bind (wpAny_field ho hd (x := vl) rfl ?_))
  refine wpAny_bind (wpAny_field ho hd (x := vu) rfl ?_)
  refine wpAny_bind (wpAny_field ho hd (x := .int (-1) tk) rfl (wpAny_pure ?_))
  refine wpAny_bind (HT.slicePart_ (IsPart.int (-1) tk) ?_)
  show wpAny _ _ (if ((-1 : Int) == 0) = true then _ else _) _ _ s
  rw [if_neg (by decide)]
  refine wpAny_bind (HT.slicePart_ pl ?_)
  refine wpAny_bind (HT.slicePart_ pu ?_)
  refine wpAny_bind (wpAny_pure ?_)
  have adj : Builtin.Slice.sliceAdjust none none (-1) (n : Int) = ((n : Int) - 1, -1) := by
    unfold Builtin.Slice.sliceAdjust
    simp
  have plc : Builtin.Slice.slicePlaces ((n : Int) - 1) (-1) (-1) = n := by
    unfold Builtin.Slice.slicePlaces
    have z1 : ¬ ((-1 : Int) > 0) := by decide
    simp only [z1, if_false, show (- -1 : Int) = 1 by decide, Int.ediv_one]
    split <;> omega
  show wpAny _ _ (match Builtin.Slice.sliceAdjust none none (-1) (n : Int) with | (lo, hi) => pure (lo, (-1 : Int), Builtin.Slice.slicePlaces lo hi (-1))) _ _ s
  rw [adj]
  show wpAny _ _ (pure ((n : Int) - 1, (-1 : Int), Builtin.Slice.slicePlaces ((n : Int) - 1) (-1) (-1))) _ _ s
  rw [plc]
  exact wpAny_pure q
theorem pick_back (xs : Array Value) : ((List.range xs.size).filterMap fun (m : Nat) => xs[(((xs.size : Nat) : Int) - 1 + (m : Int) * (-1)).toNat]?).toArray = xs.toList.reverse.toArray := by
  congr 1
  have e : (List.range xs.size).filterMap (fun (m : Nat) => xs[(((xs.size : Nat) : Int) - 1 + (m : Int) * (-1)).toNat]?) = ((List.range xs.size).map (fun k => xs.size - 1 - k)).filterMap (xs[·]?) := by
    rw [List.filterMap_map]
    congr 1
    funext m
    show xs[_]? = xs[_]?
    congr 1
    dsimp only
    omega
  rw [e, PySem.W.krv_range, List.filterMap_reverse, PySem.W.krv_all]
theorem getItem_back {t sl : Addr} {items : Array Value} {vl vu : Value} {tk : Tok} {Q : Value → Shared → Prop} (ht : IsTup s.heap t items) (hs : s.heap.IsSliceOf sl vl vu (.int (-1) tk)) (pl : IsPart vl none) (pu : IsPart vu none)
    (q : Q (.ref s.heap.objs.size) { s with heap := s.heap.push { cls := .type "tuple", data := .seq items.toList.reverse.toArray } }) (sz : items.size ≤ sizeLine) : wpAny (model prog w) A (getItem (.ref t) (.ref sl)) Q E s := by
  have fits : sizeOk (.seq items.toList.reverse.toArray) := by
    show items.toList.reverse.toArray.size ≤ sizeLine
    rw [List.size_toArray, List.length_reverse, Array.length_toList]
    exact sz
  obtain ⟨o, ho, hc, hd⟩ := id hs
  have isS : s.TypeIs (.ref sl) "slice" := ⟨o, ho, hc⟩
  unfold getItem
  try with_reducible refine wpAny_holding ?_
  first | refine wpAny_bind (wpAny_pure ?_) | skip
  refine wpAny_bind (wpAny_sequenceKey ht.typeIs (by decide) ?_)
  refine wpAny_bind (wpAny_callSpecial?_slot (name := Str.ofString "__getitem__") ht.typeIs PyProof.Rows.slot_tuple_getitem
    (wpAny_call_entry PyProof.Rows.slot_tuple_getitem ht.typeIs entry_tuple_getitem ?_ (args_tuple_getitem _ _)))
  show wpAny _ _ (Builtin.Tuple.tupleItemsOf (.ref t) >>= _) _ _ s
  refine wpAny_bind (tupleItemsOf_ ht ?_)
  refine wpAny_bind (wpAny_typeOf isS ?_)
  rw [if_pos (by decide)]
  refine wpAny_bind (applied_back hs pl pu ?_)
  have no : ¬ ((((items.size : Int) - 1 == 0) && (-1 : Int) == 1 && (items.size == items.size)) = true) := by
    intro z
    rw [Bool.and_eq_true, Bool.and_eq_true] at z
    exact absurd z.1.2 (by decide)
  show wpAny _ _ (if (((items.size : Int) - 1 == 0) && (-1 : Int) == 1 && (items.size == items.size)) = true then _ else _) _ _ s
  rw [if_neg no, pick_back]
  first
    | exact wpAny_bind (m := Builtin.Tuple.tupleExact _) (wpAny_newObj_type (wpAny_pure ⟨_, rfl, wpAny_pure q⟩) fits)
    | exact wpAny_bind (m := Builtin.Tuple.tupleExact _) (wpAny_newObj_type (wpAny_bind (wpAny_pure (wpAny_pure ⟨_, rfl, wpAny_pure q⟩))) fits)
    | exact wpAny_bind (wpAny_bind (m := Builtin.Tuple.tupleExact _) (wpAny_newObj_type (wpAny_pure (wpAny_pure ⟨_, rfl, wpAny_pure q⟩)) fits))
    | exact wpAny_bind (wpAny_bind (m := Builtin.Tuple.tupleExact _) (wpAny_newObj_type (wpAny_pure ⟨_, rfl, wpAny_pure q⟩) fits))
end
section
variable {X : Cx}
def tBack (K : PySem.W.Frag) (te : TE) : TE := fun σ H Q => te σ H fun x H1 => ∃ a xs, x = .ref a ∧ SqT K H1 a xs ∧ ∀ p, H1 p = none → Q (.ref p) (upd H1 p (.tup xs.reverse))
theorem pe_back {e : Expr} {te : TE} {k : Nat} {p1 p2 p3 pos : Pos} (he : PE X e te) : PE X (.Subscript e (.Slice none none (some (.UnaryOp .USub (.Constant (.int 1) k p1) p2)) p3) pos) (tBack X.K te) := by
  refine ⟨fun pins s σ H Q I want => ?_⟩
  refine Subscript_ (thn (he.run pins s σ H _ I want) ?_)
  rintro v s1 ⟨x, H1, I1, r1, a, xs, rfl, hx, want1⟩
  cases r1
  refine wpAny_Slice (thn (po_none.run pins s1 σ H1 (fun o G => o = none ∧ G = H1) I1 ⟨rfl, rfl⟩) ?_)
  rintro vl s2 ⟨l, G2, I2, pl, rfl, rfl⟩
  refine thn (po_none.run pins s2 σ G2 (fun o G => o = none ∧ G = G2) I2 ⟨rfl, rfl⟩) ?_
  rintro vu s3 ⟨u, G3, I3, pu, rfl, rfl⟩
  have hst : PE X (.UnaryOp .USub (.Constant (.int 1) k p1) p2) (tUn (rU fun i => .int (-i)) (tC (.int 1))) := pe_un un_neg pe_int
  rw [evalPart_some]
  refine thn (hst.run pins s3 σ G3 (fun y G => y = .int (-1) ∧ G = G3) I3 ⟨1, rfl, rfl, rfl⟩) ?_
  rintro vs s4 ⟨y, H4, I4, ry, rfl, rfl⟩
  obtain ⟨tk, rfl⟩ := ry
  have I5 : Inv X pins σ H4 { s4 with heap := s4.heap.push { cls := .type "slice", data := .fields #[vl, vu, .int (-1) tk] } } := I4.kept (t' := s4.toks) fun b ob z => Heap.get?_push_of_some _ z
  obtain ⟨its, r, ht, hz⟩ := I5.tuple hx
  have hlen := r.length
  refine tail_any (ops := [.ref a, .ref s4.heap.objs.size]) ht.typeIs (PyProof.Rows.slot_tuple_getitem.lookup) ?_ (by with_unfolding_all rfl)
  refine getItem_back ht (Heap.IsSliceOf.new _ vl vu _) pl pu ?_ (by rw [List.size_toArray]; omega)
  refine ⟨.ref _, _, I5.laid (t' := s4.toks) (o := .tup xs.reverse) (fun b ob z => Heap.get?_push_of_some _ z) (Nat.le_refl _) ?_, rfl, want1 _ (I5.hok.fresh (Nat.le_refl _))⟩
  exact ⟨by rw [List.length_reverse]; exact hz, _, r.reverse, ⟨_, Heap.get?_push_size _ rfl, rfl, _, rfl⟩⟩
end
end Gd
namespace Lw
open PySem PySem.Spec PyProof.Rows L2 Gd
/-- a small piece of data -/
structure Small (k : Nat) (d : PyData) : Prop where
  sh : d.showable = true
  lv : d.leavesShort 100 = true
  wt : d.weight ≤ k
  dp : d.depth ≤ 1
def It (av : Addr → Prop) (H : Hp) (v : V) : Prop := ∃ d, Dv av H v d ∧ Small 200 d
theorem It.keep {av : Addr → Prop} {H H' : Hp} {v : V} (x : It av H v) (k : Kq av H H') : It av H' v := by
  obtain ⟨d, h, s⟩ := x
  exact ⟨d, h.keepq k, s⟩
theorem len_int {i : Int} (h : i.natAbs < 10 ^ 30) : (Str.ofString (toString i)).length ≤ 100 := by
  have e := int_text_length_le10 (k := 30) (by decide) h
  rw [PySem.ofString_length]
  omega
theorem It.int {av : Addr → Prop} {H : Hp} {i : Int} (h : i.natAbs < 10 ^ 30) : It av H (.int i) := by
  have e : i.natAbs.log2 < 100 := by
    by_cases z : i.natAbs = 0
    · rw [z]
      decide
    · exact (Nat.log2_lt z).mpr (Nat.lt_of_lt_of_le h (by decide))
  refine ⟨.int i, .int i, ?_, ?_, ?_, ?_⟩
  · rw [PyData.showable]
    exact decide_eq_true (by omega)
  · rw [PyData.leavesShort]
    refine decide_eq_true ?_
    rw [PyData.shown_int]
    exact len_int h
  · rw [PyData.weight]
    split <;> omega
  · rw [PyData.depth]
    omega
theorem paired_ix {α β : Type} {R : α → β → Prop} {xs : List α} {ds : List β} (h : Paired R xs ds) : ∀ (i : Nat) (x : α) (d : β), xs[i]? = some x → ds[i]? = some d → R x d := by
  induction h with
  | nil => intro i x d h1 h2; simp at h1
  | cons r _ ih =>
    intro i x d h1 h2
    cases i with
    | zero =>
      cases h1
      cases h2
      exact r
    | succ i => exact ih i x d h1 h2
theorem It.tup {av : Addr → Prop} {H : Hp} {p : Addr} {xs : List V} {ds : List PyData} (e : H p = some (.tup xs)) (n : ¬ av p) (h : Paired (Dv av H) xs ds) (s : Small 200 (.tuple ds)) : It av H (.ref p) :=
  ⟨_, .tup e n (Paired.length h) (paired_ix h), s⟩
theorem It.lst {av : Addr → Prop} {H : Hp} {p : Addr} {xs : List V} {ds : List PyData} (e : H p = some (.lst xs)) (n : ¬ av p) (h : Paired (Dv av H) xs ds) (s : Small 200 (.list ds)) : It av H (.ref p) :=
  ⟨_, .lst e n (Paired.length h) (paired_ix h), s⟩
end Lw
/-! Defs read over data: what a name holds is data, or a list of its own; the heap is gone. -/
namespace Dl
open PySem PySem.Spec PyProof.Rows L2 Gd

/-- what the frame may speak of: its own objects, things of the world, tuples -/
def Fw (S : Addr → Prop) (x : Addr) (o : HO) : Prop := S x ∨ wk x o ∨ ∃ xs, o = .tup xs
/-- neither a tuple nor a thing of the world -/
def nt : HO → Bool
  | .tup _ => false
  | .ins _ _ _ => false
  | .ext _ => false
  | _ => true
theorem nt_wo {o : HO} (h : nt o = true) : wo o = false := by
  cases o <;> first | rfl | cases h
theorem Fw.ne {S : Addr → Prop} {H : Hp} {x a : Addr} {o w : HO} (z : Fw S x o) (e : H x = some o) (ns : ¬ S a) (ea : H a = some w) (w1 : nt w = true) : x ≠ a := fun y => by
  subst y
  rw [ea] at e
  cases e
  rcases z with z | z | ⟨xs, rfl⟩
  · exact ns z
  · have := z.wo
    rw [nt_wo w1] at this
    cases this
  · cases w1
/-- what is to be avoided stands, and is no tuple -/
structure Hb (B : Addr → Prop) (H : Hp) : Prop where
  h : ∀ x, B x → H x ≠ none
  t : ∀ x, B x → ∀ o, H x = some o → nt o = true
/-- the objects that draws may change, and what holds of them -/
structure Fr where
  S : Addr → Prop
  I : Nat → Hp → Prop
  s : V
  keep : ∀ n H H', I n H → (∀ x o, Fw S x o → H x = some o → H' x = some o) → I n H'
  aS : ∀ n H, I n H → Hb S H
theorem Fr.al (F : Fr) : ∀ n H x, F.I n H → F.S x → H x ≠ none := fun n H x i z => (F.aS n H i).h x z
/-- a def's call: the draws, what the arguments avoid, the heap at its start -/
structure Gx where
  F : Fr
  B : Addr → Prop
  Hs : Hp
  sb : ∀ x, F.S x → B x
  hB : Hb B Hs
theorem Gx.hb (G : Gx) : ∀ x, G.B x → G.Hs x ≠ none := G.hB.h
/-- a dict of one's own: keys ints and texts, or tuples of these -/
inductive Oc
  | k (kvs : List (L2.Key × PyData))
  | t (kvs : List (List L2.Key × PyData))
inductive Sl
  | no
  | dat (d : PyData)
  | own (ds : List PyData)
  | con (v : V)
  | odi (c : Oc)
structure En where
  ρ : List Sl
  n : Nat
abbrev DvL (O : Addr → Prop) (H : Hp) : List V → List PyData → Prop := Paired (Dv O H)

def OcR (O : Addr → Prop) (H : Hp) : HO → Oc → Prop
  | .dK vs, .k kvs => Paired (fun p q => p.1 = q.1 ∧ Dv O H p.2 q.2) vs kvs
  | .dT vs, .t kvs => Paired (fun p q => p.1 = q.1 ∧ Dv O H p.2 q.2) vs kvs
  | _, _ => False
theorem OcR.mp {O O' : Addr → Prop} {H H' : Hp} (f : ∀ v d, Dv O H v d → Dv O' H' v d) {o : HO} {c : Oc} (h : OcR O H o c) : OcR O' H' o c := by
  cases o <;> cases c <;> first | exact h.elim | exact L2.Paired.mapP h fun _ _ z => ⟨z.1, f _ _ z.2⟩
theorem OcR.nl {O : Addr → Prop} {H : Hp} {o : HO} {c : Oc} (h : OcR O H o c) : ∀ vs, o ≠ .lst vs := fun vs e => by
  subst e
  cases c <;> exact h.elim
/-- dicts of one's own in the slots -/
structure OdR (G : Gx) (O : Addr → Prop) (σ : L2.St) (H : Hp) (ρ : List Sl) : Prop where
  h : ∀ (i : Nat) (c : Oc), ρ[i]? = some (.odi c) → ∃ a o, σ[i]? = some (some (.ref a)) ∧ H a = some o ∧ O a ∧ G.Hs a = none ∧ OcR O H o c
  d : ∀ (i j : Nat) (ci cj : Oc) (a : Addr), ρ[i]? = some (.odi ci) → ρ[j]? = some (.odi cj) → σ[i]? = some (some (.ref a)) → σ[j]? = some (some (.ref a)) → i = j
theorem OdR.mvG {G G' : Gx} {O O' : Addr → Prop} {σ : L2.St} {H H' : Hp} {ρ : List Sl} (r : OdR G O σ H ρ) (f : ∀ v d, Dv O H v d → Dv O' H' v d)
    (k : ∀ (i : Nat) (c : Oc) (a : Addr) (o : HO), ρ[i]? = some (.odi c) → σ[i]? = some (some (.ref a)) → H a = some o → O a → G.Hs a = none → (∀ vs, o ≠ .lst vs) → OcR O H o c → H' a = some o ∧ O' a ∧ G'.Hs a = none) : OdR G' O' σ H' ρ :=
  ⟨fun i c e => by
    obtain ⟨a, o, e1, e2, oa, sa, h⟩ := r.h i c e
    obtain ⟨q1, q2, q3⟩ := k i c a o e e1 e2 oa sa h.nl h
    exact ⟨a, o, e1, q1, q2, q3, h.mp f⟩, r.d⟩
theorem OcR.nt {O : Addr → Prop} {H : Hp} {o : HO} {c : Oc} (h : OcR O H o c) : Dl.nt o = true := by
  cases o <;> cases c <;> first | rfl | exact h.elim
theorem OcR.nw {O : Addr → Prop} {H : Hp} {o : HO} {c : Oc} (h : OcR O H o c) : wo o = false := by
  cases o <;> cases c <;> first | rfl | exact h.elim
theorem OdR.mv {G : Gx} {O O' : Addr → Prop} {σ : L2.St} {H H' : Hp} {ρ : List Sl} (r : OdR G O σ H ρ) (f : ∀ v d, Dv O H v d → Dv O' H' v d)
    (k : ∀ (i : Nat) (c : Oc) (a : Addr) (o : HO), ρ[i]? = some (.odi c) → σ[i]? = some (some (.ref a)) → H a = some o → O a → G.Hs a = none → (∀ vs, o ≠ .lst vs) ∧ wo o = false → H' a = some o ∧ O' a) : OdR G O' σ H' ρ :=
  r.mvG f fun i c a o e1 e2 e3 e4 e5 e6 e7 => let z := k i c a o e1 e2 e3 e4 e5 ⟨e6, e7.nw⟩; ⟨z.1, z.2, e5⟩
theorem OdR.sub {G : Gx} {O : Addr → Prop} {σ σ' : L2.St} {H : Hp} {ρ ρ' : List Sl} (r : OdR G O σ H ρ) (k : ∀ (j : Nat) (c : Oc), ρ'[j]? = some (.odi c) → ρ[j]? = some (.odi c) ∧ σ'[j]? = σ[j]?) : OdR G O σ' H ρ' :=
  ⟨fun i c e => by
    obtain ⟨k1, k2⟩ := k i c e
    rw [k2]
    exact r.h i c k1, fun i j ci cj a e1 e2 e3 e4 => by
    obtain ⟨k1, k2⟩ := k i ci e1
    obtain ⟨k3, k4⟩ := k j cj e2
    rw [k2] at e3
    rw [k4] at e4
    exact r.d i j ci cj a k1 k3 e3 e4⟩
theorem OdR.put {G : Gx} {O : Addr → Prop} {σ : L2.St} {H : Hp} {ρ : List Sl} {i : Nat} {s : Sl} {x : Option V} (r : OdR G O σ H ρ) (n : ∀ c, s ≠ .odi c) : OdR G O (σ.set i x) H (ρ.set i s) :=
  r.sub fun j c e => by
    rw [List.getElem?_set] at e
    by_cases q : i = j
    · rw [if_pos q] at e
      split at e
      · exact (n c (Option.some.inj e)).elim
      · cases e
    · rw [if_neg q] at e
      exact ⟨e, List.getElem?_set_ne q⟩
theorem OdR.none {G : Gx} {O : Addr → Prop} {σ : L2.St} {H : Hp} {ρ : List Sl} (n : ∀ (j : Nat) (c : Oc), ρ[j]? ≠ some (Sl.odi c)) : OdR G O σ H ρ := ⟨fun i c e => (n i c e).elim, fun i _ c _ _ e _ _ _ => (n i c e).elim⟩

structure Rel (G : Gx) (O : Addr → Prop) (σ : L2.St) (H : Hp) (E : En) : Prop where
  len : σ.length = E.ρ.length
  dat : ∀ (i : Nat) (d : PyData), E.ρ[i]? = some (.dat d) → ∃ v, σ[i]? = some (some v) ∧ Dv O H v d
  own : ∀ (i : Nat) (ds : List PyData), E.ρ[i]? = some (.own ds) → ∃ a vs, σ[i]? = some (some (.ref a)) ∧ H a = some (.lst vs) ∧ O a ∧ G.Hs a = none ∧ DvL O H vs ds
  dif : ∀ (i j : Nat) (di dj : List PyData) (a : Addr), E.ρ[i]? = some (.own di) → E.ρ[j]? = some (.own dj) → σ[i]? = some (some (.ref a)) → σ[j]? = some (some (.ref a)) → i = j
  con : ∀ (i : Nat) (v : V), E.ρ[i]? = some (.con v) → σ[i]? = some (some v)
  str : G.F.I E.n H
  bo : ∀ x, G.B x → O x
  on : ∀ x, O x → G.B x ∨ G.Hs x = none
  aB : Hb O H
  kp : Kp G.F.S G.Hs H
  od : OdR G O σ H E.ρ
theorem Rel.al {G : Gx} {O : Addr → Prop} {σ : L2.St} {H : Hp} {E : En} (r : Rel G O σ H E) : ∀ x, O x → H x ≠ none := r.aB.h

/-- what stood outside O stands, and what is avoided now is of O or new -/
structure Later (O : Addr → Prop) (H : Hp) (O' : Addr → Prop) (H' : Hp) : Prop where
  o : ∀ x, O' x → O x ∨ H x = none
  h : ∀ x u, H x = some u → ¬ O x → Stay u (H' x)
theorem Later.refl (O : Addr → Prop) (H : Hp) : Later O H O H := ⟨fun _ h => .inl h, fun _ _ h _ => Stay.of h⟩
theorem Later.trans {O O1 O2 : Addr → Prop} {H H1 H2 : Hp} (a : Later O H O1 H1) (b : Later O1 H1 O2 H2) : Later O H O2 H2 := by
  refine ⟨fun x h => ?_, fun x u h n => ?_⟩
  · rcases b.o x h with q | q
    · exact a.o x q
    · cases e : H x with
      | none => exact .inr rfl
      | some u =>
        refine .inl (Classical.byContradiction fun n => ?_)
        exact (a.h x u e n).ne q
  · refine (a.h x u h n).trans fun u' e' => b.h x u' e' fun q => ?_
    rcases a.o x q with r | r
    · exact n r
    · rw [h] at r
      cases r
theorem Later.of_kp {G : Gx} {O : Addr → Prop} {H H' : Hp} (sO : ∀ x, G.F.S x → O x) (k : Kp G.F.S H H') : Later O H O H' := ⟨fun _ h => .inl h, fun x u h n => k x u h fun z => n (sO x z)⟩
theorem Dv.less' {av av' : Addr → Prop} {H : Hp} {v : V} {d : PyData} (k : ∀ b, av' b → av b) (h : Dv av H v d) : Dv av' H v d := by
  induction h with
  | non => exact .non
  | bl b => exact .bl b
  | int i => exact .int i
  | str x => exact .str x
  | lst e n l _ ih => exact .lst e (fun z => n (k _ z)) l ih
  | tup e n l _ ih => exact .tup e (fun z => n (k _ z)) l ih
  | dct e n p => exact .dct e (fun z => n (k _ z)) p
  | dcv e n l _ ih => exact .dcv e (fun z => n (k _ z)) l ih
theorem Dv.later {O O' : Addr → Prop} {H H' : Hp} {v : V} {d : PyData} (L : Later O H O' H') (h : Dv O H v d) : Dv O' H' v d := by
  have nn : ∀ {a : Addr} {u : HO}, H a = some u → ¬ O a → ¬ O' a := by
    intro a u e n z
    rcases L.o a z with q | q
    · exact n q
    · rw [e] at q
      cases q
  induction h with
  | non => exact .non
  | bl b => exact .bl b
  | int i => exact .int i
  | str x => exact .str x
  | lst e n l _ ih => exact .lst (L.h _ _ e n) (nn e n) l ih
  | tup e n l _ ih => exact .tup (L.h _ _ e n) (nn e n) l ih
  | dct e n p => exact .dct (L.h _ _ e n) (nn e n) p
  | dcv e n l _ ih => exact .dcv (L.h _ _ e n) (nn e n) l ih
theorem DvL.mp {O O' : Addr → Prop} {H H' : Hp} {vs : List V} {ds : List PyData} (h : DvL O H vs ds) (f : ∀ v d, Dv O H v d → Dv O' H' v d) : DvL O' H' vs ds := L2.Paired.mapP h f
theorem DvL.later {O O' : Addr → Prop} {H H' : Hp} {vs : List V} {ds : List PyData} (L : Later O H O' H') (h : DvL O H vs ds) : DvL O' H' vs ds := h.mp fun _ _ z => Dv.later L z
theorem DvL.ix {O : Addr → Prop} {H : Hp} {xs : List V} {ds : List PyData} (h : DvL O H xs ds) : ∀ (i : Nat) (x : V) (d : PyData), xs[i]? = some x → ds[i]? = some d → Dv O H x d := by
  induction h with
  | nil => intro i x d h; simp at h
  | cons r _ ih =>
    intro i x d h1 h2
    cases i with
    | zero =>
      simp only [List.getElem?_cons_zero, Option.some.injEq] at h1 h2
      subst h1 h2
      exact r
    | succ i => exact ih i x d (by simpa using h1) (by simpa using h2)
theorem dvl_of {O : Addr → Prop} {H : Hp} : ∀ {xs : List V} {ds : List PyData}, xs.length = ds.length → (∀ (i : Nat) (x : V) (d : PyData), xs[i]? = some x → ds[i]? = some d → Dv O H x d) → DvL O H xs ds
  | [], [], _, _ => .nil
  | [], _ :: _, l, _ => by cases l
  | _ :: _, [], l, _ => by cases l
  | x :: xs, d :: ds, l, h => .cons (h 0 x d rfl rfl) (dvl_of (Nat.succ.inj l) fun i y e h1 h2 => h (i + 1) y e h1 h2)
theorem Dv.mkL {O : Addr → Prop} {H : Hp} {a : Addr} {xs : List V} {ds : List PyData} (e : H a = some (.lst xs)) (n : ¬ O a) (h : DvL O H xs ds) : Dv O H (.ref a) (.list ds) := .lst e n h.length h.ix
theorem Dv.mkT {O : Addr → Prop} {H : Hp} {a : Addr} {xs : List V} {ds : List PyData} (e : H a = some (.tup xs)) (n : ¬ O a) (h : DvL O H xs ds) : Dv O H (.ref a) (.tuple ds) := .tup e n h.length h.ix
theorem Dv.unL {O : Addr → Prop} {H : Hp} {v : V} {ds : List PyData} (h : Dv O H v (.list ds)) : ∃ a xs, v = .ref a ∧ H a = some (.lst xs) ∧ ¬ O a ∧ DvL O H xs ds := by
  cases h with
  | lst e n l f => exact ⟨_, _, rfl, e, n, dvl_of l f⟩
theorem Dv.unT {O : Addr → Prop} {H : Hp} {v : V} {ds : List PyData} (h : Dv O H v (.tuple ds)) : ∃ a xs, v = .ref a ∧ H a = some (.tup xs) ∧ ¬ O a ∧ DvL O H xs ds := by
  cases h with
  | tup e n l f => exact ⟨_, _, rfl, e, n, dvl_of l f⟩

/-- what is avoided still stands: the frame's own, or what stays -/
theorem Hb.step {S O : Addr → Prop} {H H' : Hp} (a : Hb O H) (b : Hb S H') (k : Kp S H H') : Hb O H' := by
  refine ⟨fun x z => ?_, fun x z o e' => ?_⟩
  · by_cases q : S x
    · exact b.h x q
    · cases e : H x with
      | none => exact (a.h x z e).elim
      | some u => exact Stay.ne (k x u e q)
  · by_cases q : S x
    · exact b.t x q o e'
    · cases e : H x with
      | none => exact (a.h x z e).elim
      | some u =>
        have n := a.t x z u e
        rw [(k x u e q).eq (nt_wo n)] at e'
        cases e'
        exact n
theorem Hb.same {O : Addr → Prop} {H H' : Hp} (a : Hb O H) (k : ∀ x u, O x → H x = some u → H' x = some u) : Hb O H' := by
  refine ⟨fun x z => ?_, fun x z o e' => ?_⟩
  · cases e : H x with
    | none => exact (a.h x z e).elim
    | some u =>
      rw [k x u z e]
      exact fun y => by cases y
  · cases e : H x with
    | none => exact (a.h x z e).elim
    | some u =>
      rw [k x u z e, ← e] at e'
      exact a.t x z o e'
theorem Hb.or {O : Addr → Prop} {H : Hp} {p : Addr} {w : HO} (a : Hb O H) (e : H p = some w) (t : nt w = true) : Hb (fun x => O x ∨ x = p) H := by
  refine ⟨fun x z => ?_, fun x z o q => ?_⟩
  · rcases z with z | z
    · exact a.h x z
    · rw [z, e]
      exact fun y => by cases y
  · rcases z with z | z
    · exact a.t x z o q
    · rw [z, e] at q
      cases q
      exact t
theorem Hb.upd {O : Addr → Prop} {H : Hp} {p : Addr} {w : HO} (a : Hb O H) (t : nt w = true) : Hb O (L2.upd H p w) := by
  refine ⟨fun x z => ?_, fun x z o q => ?_⟩
  · by_cases e : x = p
    · rw [e, upd_same]
      exact fun y => by cases y
    · rw [upd_ne e]
      exact a.h x z
  · by_cases e : x = p
    · rw [e, upd_same] at q
      cases q
      exact t
    · rw [upd_ne e] at q
      exact a.t x z o q
theorem Hb.sub {O O' : Addr → Prop} {H : Hp} (a : Hb O H) (k : ∀ x, O' x → O x) : Hb O' H := ⟨fun x z => a.h x (k x z), fun x z => a.t x (k x z)⟩
section
variable {G : Gx} {O : Addr → Prop} {σ : L2.St} {H H' : Hp} {E : En}
theorem Rel.free {x : Addr} (r : Rel G O σ H E) (h : H x = none) : G.B x ∨ G.Hs x = none := by
  cases e : G.Hs x with
  | none => exact .inr rfl
  | some u =>
    by_cases z : G.F.S x
    · exact .inl (G.sb x z)
    · have q := r.kp x u e z
      rw [h] at q
      cases u <;> (first | (obtain ⟨_, y, _⟩ := q; cases y) | cases q)
theorem Rel.sO (r : Rel G O σ H E) : ∀ x, G.F.S x → O x := fun x z => r.bo x (G.sb x z)
theorem Rel.lt (r : Rel G O σ H E) (k : Kp G.F.S H H') : Later O H O H' := Later.of_kp r.sO k
theorem Rel.step {n : Nat} (r : Rel G O σ H E) (k : Kp G.F.S H H') (i : G.F.I n H') : Rel G O σ H' ⟨E.ρ, n⟩ := by
  have L := r.lt k
  refine ⟨r.len, fun j d e => ?_, fun j ds e => ?_, r.dif, r.con, i, r.bo, r.on, r.aB.step (G.F.aS _ _ i) k, r.kp.trans k, r.od.mv (fun _ _ z => Dv.later L z) fun _ _ a o _ _ e oa sa nl => ⟨(k _ _ e (fun z => G.hb a (G.sb a z) sa)).eq nl.2, oa⟩⟩
  · obtain ⟨v, e1, h⟩ := r.dat j d e
    exact ⟨v, e1, Dv.later L h⟩
  · obtain ⟨a, vs, e1, e2, oa, sa, h⟩ := r.own j ds e
    exact ⟨a, vs, e1, k _ _ e2 (fun z => G.hb a (G.sb a z) sa), oa, sa, h.later L⟩
/-- the same slots, another store of data -/
theorem Rel.set {i : Nat} {v : V} {d : PyData} (r : Rel G O σ H E) (h : Dv O H v d) : Rel G O (σ.set i (some v)) H ⟨E.ρ.set i (.dat d), E.n⟩ := by
  have g1 : ∀ {j : Nat} {s : Sl}, (E.ρ.set i (.dat d))[j]? = some s → (j = i ∧ s = .dat d ∧ i < E.ρ.length) ∨ (j ≠ i ∧ E.ρ[j]? = some s) := by
    intro j s e
    rw [List.getElem?_set] at e
    by_cases q : i = j
    · rw [if_pos q] at e
      split at e
      · cases e; exact .inl ⟨q.symm, rfl, by assumption⟩
      · cases e
    · rw [if_neg q] at e
      exact .inr ⟨fun z => q z.symm, e⟩
  have g2 : ∀ {j : Nat}, j ≠ i → (σ.set i (some v))[j]? = σ[j]? := fun q => List.getElem?_set_ne (fun z => q z.symm)
  refine ⟨by simp [r.len], fun j e q => ?_, fun j ds q => ?_, fun j k dj dk a q1 q2 q3 q4 => ?_, fun j u q => ?_, r.str, r.bo, r.on, r.aB, r.kp, r.od.put (fun c z => by cases z)⟩
  · rcases g1 q with ⟨rfl, z, hl⟩ | ⟨z1, z2⟩
    · cases z
      exact ⟨v, by rw [List.getElem?_set_self (by rw [r.len]; exact hl)], h⟩
    · rw [g2 z1]
      exact r.dat j e z2
  · rcases g1 q with ⟨_, z, _⟩ | ⟨z1, z2⟩
    · cases z
    · rw [g2 z1]
      exact r.own j ds z2
  · rcases g1 q1 with ⟨_, z, _⟩ | ⟨z1, z2⟩
    · cases z
    · rcases g1 q2 with ⟨_, z, _⟩ | ⟨y1, y2⟩
      · cases z
      · rw [g2 z1] at q3
        rw [g2 y1] at q4
        exact r.dif j k dj dk a z2 y2 q3 q4
  · rcases g1 q with ⟨_, z, _⟩ | ⟨z1, z2⟩
    · cases z
    · rw [g2 z1]
      exact r.con j u z2
/-- a slot is forgotten -/
theorem Rel.drop {i : Nat} {o : Option V} (r : Rel G O σ H E) : Rel G O (σ.set i o) H ⟨E.ρ.set i .no, E.n⟩ := by
  have g1 : ∀ {j : Nat} {s : Sl}, (E.ρ.set i .no)[j]? = some s → s ≠ .no → (j ≠ i ∧ E.ρ[j]? = some s) := by
    intro j s e ns
    rw [List.getElem?_set] at e
    by_cases q : i = j
    · rw [if_pos q] at e
      split at e
      · cases e; exact (ns rfl).elim
      · cases e
    · rw [if_neg q] at e
      exact ⟨fun z => q z.symm, e⟩
  have g2 : ∀ {j : Nat}, j ≠ i → (σ.set i o)[j]? = σ[j]? := fun q => List.getElem?_set_ne (fun z => q z.symm)
  refine ⟨by simp [r.len], fun j e q => ?_, fun j ds q => ?_, fun j k dj dk a q1 q2 q3 q4 => ?_, fun j u q => ?_, r.str, r.bo, r.on, r.aB, r.kp, r.od.put (fun c z => by cases z)⟩
  · obtain ⟨z1, z2⟩ := g1 q (fun z => nomatch z)
    rw [g2 z1]
    exact r.dat j e z2
  · obtain ⟨z1, z2⟩ := g1 q (fun z => nomatch z)
    rw [g2 z1]
    exact r.own j ds z2
  · obtain ⟨z1, z2⟩ := g1 q1 (fun z => nomatch z)
    obtain ⟨y1, y2⟩ := g1 q2 (fun z => nomatch z)
    rw [g2 z1] at q3
    rw [g2 y1] at q4
    exact r.dif j k dj dk a z2 y2 q3 q4
  · obtain ⟨z1, z2⟩ := g1 q (fun z => nomatch z)
    rw [g2 z1]
    exact r.con j u z2
/-- a list of one's own, new or moved: at an address of no other slot -/
theorem Rel.setOwn {i : Nat} {a : Addr} {vs : List V} {ds : List PyData} (r : Rel G O σ H E) (e : H a = some (.lst vs)) (sa : G.Hs a = none) (oa : O a) (h : DvL O H vs ds)
    (nw : ∀ j dj, j ≠ i → E.ρ[j]? = some (.own dj) → σ[j]? ≠ some (some (.ref a))) : Rel G O (σ.set i (some (.ref a))) H ⟨E.ρ.set i (.own ds), E.n⟩ := by
  have g1 : ∀ {j : Nat} {s : Sl}, (E.ρ.set i (.own ds))[j]? = some s → (j = i ∧ s = .own ds ∧ i < E.ρ.length) ∨ (j ≠ i ∧ E.ρ[j]? = some s) := by
    intro j s e
    rw [List.getElem?_set] at e
    by_cases q : i = j
    · rw [if_pos q] at e
      split at e
      · cases e; exact .inl ⟨q.symm, rfl, by assumption⟩
      · cases e
    · rw [if_neg q] at e
      exact .inr ⟨fun z => q z.symm, e⟩
  have g2 : ∀ {j : Nat}, j ≠ i → (σ.set i (some (.ref a)))[j]? = σ[j]? := fun q => List.getElem?_set_ne (fun z => q z.symm)
  refine ⟨by simp [r.len], fun j e q => ?_, fun j es q => ?_, fun j k dj dk b q1 q2 q3 q4 => ?_, fun j u q => ?_, r.str, r.bo, r.on, r.aB, r.kp, r.od.put (fun c z => by cases z)⟩
  · rcases g1 q with ⟨_, z, _⟩ | ⟨z1, z2⟩
    · cases z
    · rw [g2 z1]
      exact r.dat j e z2
  · rcases g1 q with ⟨rfl, z, hl⟩ | ⟨z1, z2⟩
    · cases z
      exact ⟨a, vs, by rw [List.getElem?_set_self (by rw [r.len]; exact hl)], e, oa, sa, h⟩
    · rw [g2 z1]
      exact r.own j es z2
  · rcases g1 q1 with ⟨rfl, z, hl⟩ | ⟨z1, z2⟩
    · rcases g1 q2 with ⟨y, _, _⟩ | ⟨y1, y2⟩
      · exact y.symm
      · rw [List.getElem?_set_self (by rw [r.len]; exact hl)] at q3
        cases q3
        rw [g2 y1] at q4
        exact (nw k dk y1 y2 q4).elim
    · rcases g1 q2 with ⟨rfl, z, hl⟩ | ⟨y1, y2⟩
      · rw [List.getElem?_set_self (by rw [r.len]; exact hl)] at q4
        cases q4
        rw [g2 z1] at q3
        exact (nw j dj z1 z2 q3).elim
      · rw [g2 z1] at q3
        rw [g2 y1] at q4
        exact r.dif j k dj dk b z2 y2 q3 q4
  · rcases g1 q with ⟨_, z, _⟩ | ⟨z1, z2⟩
    · cases z
    · rw [g2 z1]
      exact r.con j u z2
/-- more is avoided: an address where no object of H's data stands -/
theorem Rel.more {O' : Addr → Prop} (r : Rel G O σ H E) (L : Later O H O' H') (k : ∀ x, O x → O' x) (al : Hb O' H') (ko : ∀ x u, H x = some u → True → H' x = some u) (i : G.F.I E.n H') : Rel G O' σ H' E := by
  have kk : ∀ x u, H x = some u → H' x = some u := fun x u e => ko x u e trivial
  refine ⟨r.len, fun j d e => ?_, fun j ds e => ?_, r.dif, r.con, i, fun x z => k x (r.bo x z), fun x z => (L.o x z).elim (r.on x) fun h => r.free h, al, r.kp.trans fun x u e _ => Stay.of (kk x u e), r.od.mv (fun _ _ z => Dv.later L z) fun _ _ a o _ _ e oa _ _ => ⟨kk _ _ e, k _ oa⟩⟩
  · obtain ⟨v, e1, h⟩ := r.dat j d e
    exact ⟨v, e1, Dv.later L h⟩
  · obtain ⟨a, vs, e1, e2, oa, sa, h⟩ := r.own j ds e
    exact ⟨a, vs, e1, kk _ _ e2, k _ oa, sa, h.later L⟩
/-- another list at an own slot's address -/
theorem Rel.mut {i : Nat} {a : Addr} {vs : List V} {ds ds0 : List PyData} (r : Rel G O σ H E) (e0 : E.ρ[i]? = some (.own ds0)) (e1 : σ[i]? = some (some (.ref a))) (oa : O a) (sa : G.Hs a = none) (h : DvL O H vs ds) :
    Rel G O σ (upd H a (.lst vs)) ⟨E.ρ.set i (.own ds), E.n⟩ ∧ Later O H O (upd H a (.lst vs)) := by
  have L : Later O H O (upd H a (.lst vs)) := ⟨fun _ z => .inl z, fun x u e n => by rw [upd_ne (show x ≠ a from fun z => n (by rw [z]; exact oa))]; exact Stay.of e⟩
  have ns : ¬ G.F.S a := fun z => G.hb a (G.sb a z) sa
  have na : ∀ (b : Addr) (o : HO), b = a → H b = some o → (∀ vs, o ≠ .lst vs) → False := fun b o z e nl => by
    obtain ⟨a', vs', q1, q2, _⟩ := r.own i ds0 e0
    rw [e1] at q1
    cases q1
    rw [z, q2] at e
    exact nl vs' (Option.some.inj e).symm
  have g1 : ∀ {j : Nat} {s : Sl}, (E.ρ.set i (.own ds))[j]? = some s → (j = i ∧ s = .own ds) ∨ (j ≠ i ∧ E.ρ[j]? = some s) := by
    intro j s e
    rw [List.getElem?_set] at e
    by_cases q : i = j
    · rw [if_pos q] at e
      split at e
      · cases e; exact .inl ⟨q.symm, rfl⟩
      · cases e
    · rw [if_neg q] at e
      exact .inr ⟨fun z => q z.symm, e⟩
  refine ⟨⟨by simp [r.len], fun j e q => ?_, fun j es q => ?_, fun j k dj dk b q1 q2 q3 q4 => ?_, fun j u q => ?_, ?_, r.bo, r.on, r.aB.upd rfl, fun x u e n => ?_, (r.od.mv (fun _ _ z => Dv.later L z) fun _ _ b o _ _ e ob _ nl => ⟨by rw [upd_ne (show b ≠ a from fun z => na b o z e nl.1)]; exact e, ob⟩).sub fun j c e => ?_⟩, L⟩
  · rcases g1 q with ⟨_, z⟩ | ⟨z1, z2⟩
    · cases z
    · obtain ⟨v, q1, q2⟩ := r.dat j e z2
      exact ⟨v, q1, Dv.later L q2⟩
  · rcases g1 q with ⟨rfl, z⟩ | ⟨z1, z2⟩
    · cases z
      exact ⟨a, vs, e1, upd_same, oa, sa, h.later L⟩
    · obtain ⟨b, ws, q1, q2, q3, q4, q5⟩ := r.own j es z2
      refine ⟨b, ws, q1, ?_, q3, q4, q5.later L⟩
      rw [upd_ne (show b ≠ a from fun z => z1 (r.dif j i es ds0 a z2 e0 (by rw [← z]; exact q1) e1))]
      exact q2
  · rcases g1 q1 with ⟨rfl, _⟩ | ⟨z1, z2⟩
    · rcases g1 q2 with ⟨rfl, _⟩ | ⟨y1, y2⟩
      · rfl
      · exact r.dif _ k ds0 dk b e0 y2 q3 q4
    · rcases g1 q2 with ⟨rfl, _⟩ | ⟨y1, y2⟩
      · exact r.dif j _ dj ds0 b z2 e0 q3 q4
      · exact r.dif j k dj dk b z2 y2 q3 q4
  · rcases g1 q with ⟨_, z⟩ | ⟨z1, z2⟩
    · cases z
    · exact r.con j u z2
  · obtain ⟨a', vs', q1, q2, _⟩ := r.own i ds0 e0
    rw [e1] at q1
    cases q1
    exact G.F.keep _ _ _ r.str fun x o z e => by rw [upd_ne (z.ne e ns q2 rfl)]; exact e
  · have := r.kp x u e n
    by_cases q : x = a
    · subst q
      rw [sa] at e
      cases e
    · rw [upd_ne q]
      exact this
  · rcases g1 e with ⟨_, z⟩ | ⟨z1, z2⟩
    · cases z
    · exact ⟨z2, rfl⟩
/-- an own list is given up: from now on it is data -/
theorem Rel.freeze {i : Nat} {ds : List PyData} (r : Rel G O σ H E) (e0 : E.ρ[i]? = some (.own ds)) :
    ∃ a vs O', σ[i]? = some (some (.ref a)) ∧ H a = some (.lst vs) ∧ ¬ O' a ∧ DvL O' H vs ds ∧ Rel G O' σ H ⟨E.ρ.set i (.dat (.list ds)), E.n⟩ ∧ Later O H O' H ∧ (∀ x, O' x → O x) := by
  obtain ⟨a, vs, q1, q2, q3, q4, q5⟩ := r.own i ds e0
  have L : Later O H (fun x => O x ∧ x ≠ a) H := ⟨fun _ z => .inl z.1, fun _ _ e _ => Stay.of e⟩
  have g1 : ∀ {j : Nat} {s : Sl}, (E.ρ.set i (.dat (.list ds)))[j]? = some s → (j = i ∧ s = .dat (.list ds)) ∨ (j ≠ i ∧ E.ρ[j]? = some s) := by
    intro j s e
    rw [List.getElem?_set] at e
    by_cases q : i = j
    · rw [if_pos q] at e
      split at e
      · cases e; exact .inl ⟨q.symm, rfl⟩
      · cases e
    · rw [if_neg q] at e
      exact .inr ⟨fun z => q z.symm, e⟩
  refine ⟨a, vs, fun x => O x ∧ x ≠ a, q1, q2, fun z => z.2 rfl, q5.later L, ⟨by simp [r.len], fun j e q => ?_, fun j es q => ?_, fun j k dj dk b z1 z2 z3 z4 => ?_, fun j u q => ?_, r.str, fun x z => ⟨r.bo x z, fun y => G.hb x z (y ▸ q4)⟩, fun x z => r.on x z.1, r.aB.sub fun x z => z.1, r.kp, (r.od.mv (fun _ _ z => Dv.later L z) fun _ _ b o _ _ e ob _ nl => ⟨e, ob, fun z => by rw [z, q2] at e; exact nl.1 vs (Option.some.inj e).symm⟩).sub fun j c e => ?_⟩, L, fun x z => z.1⟩
  · rcases g1 q with ⟨rfl, z⟩ | ⟨z1, z2⟩
    · cases z
      exact ⟨_, q1, Dv.mkL q2 (fun z => z.2 rfl) (q5.later L)⟩
    · obtain ⟨v, y1, y2⟩ := r.dat j e z2
      exact ⟨v, y1, Dv.later L y2⟩
  · rcases g1 q with ⟨_, z⟩ | ⟨z1, z2⟩
    · cases z
    · obtain ⟨b, ws, y1, y2, y3, y4, y5⟩ := r.own j es z2
      exact ⟨b, ws, y1, y2, ⟨y3, fun z => z1 (r.dif j i es ds a z2 e0 (z ▸ y1) q1)⟩, y4, y5.later L⟩
  · rcases g1 z1 with ⟨_, z⟩ | ⟨w1, w2⟩
    · cases z
    · rcases g1 z2 with ⟨_, z⟩ | ⟨y1, y2⟩
      · cases z
      · exact r.dif j k dj dk b w2 y2 z3 z4
  · rcases g1 q with ⟨_, z⟩ | ⟨z1, z2⟩
    · cases z
    · exact r.con j u z2
  · rcases g1 e with ⟨_, z⟩ | ⟨z1, z2⟩
    · cases z
    · exact ⟨z2, rfl⟩
end

/-! ### readings over data -/
abbrev TD := En → (PyData → Nat → Prop) → Prop
abbrev TDt := En → (Bool → Nat → Prop) → Prop
inductive Ar
  | d (x : PyData)
  | c (v : V)
def Ar.sl : Ar → Sl
  | .d x => .dat x
  | .c v => .con v
def ArR (O : Addr → Prop) (H : Hp) (v : V) : Ar → Prop
  | .d x => Dv O H v x
  | .c u => v = u
abbrev TDa := En → (List Ar → Nat → Prop) → Prop
structure DEnds where
  nx : En → Prop
  rt : PyData → Nat → Prop
  bk : En → Prop := fun _ => False
  ct : En → Prop := fun _ => False
abbrev TSd := DEnds → En → Prop
abbrev RR := (Addr → Prop) → Hp → Hp → V → PyData → Prop
/-- data | data, or a list whose own address may be any | a new list -/
def RD : RR := fun O _ H' v d => Dv O H' v d
def Bw (O : Addr → Prop) (H : Hp) (v : V) (d : PyData) : Prop := Dv O H v d ∨ ∃ a vs ds, v = .ref a ∧ d = .list ds ∧ H a = some (.lst vs) ∧ DvL O H vs ds
def RB (G : Gx) : RR := fun O _ H' v d => Dv O H' v d ∨ ∃ a vs ds, v = .ref a ∧ d = .list ds ∧ H' a = some (.lst vs) ∧ DvL O H' vs ds ∧ ¬ G.B a
def RL : RR := fun O H H' v d => ∃ a vs ds, v = .ref a ∧ d = .list ds ∧ H a = none ∧ H' a = some (.lst vs) ∧ DvL (fun x => O x ∨ x = a) H' vs ds
section
variable (G : Gx)
def low (R : RR) (t : TD) : TE := fun σ H Q => ∃ (O : Addr → Prop) (E : En) (Qd : PyData → Nat → Prop), Rel G O σ H E ∧ (∀ d n v H', Kp G.F.S H H' → G.F.I n H' → R O H H' v d → Qd d n → Q v H') ∧ t E Qd
def lowT (t : TDt) : TT := fun σ H Q => ∃ (O : Addr → Prop) (E : En) (Qd : Bool → Nat → Prop), Rel G O σ H E ∧ (∀ b n H', Kp G.F.S H H' → G.F.I n H' → Qd b n → Q b H') ∧ t E Qd
def lowA (t : TDa) : TA := fun σ H Q => ∃ (O : Addr → Prop) (E : En) (Qd : List Ar → Nat → Prop), Rel G O σ H E ∧ (∀ as n vs H', Kp G.F.S H H' → G.F.I n H' → Paired (ArR O H') vs as → Qd as n → Q vs H') ∧ t E Qd
structure Lk (O : Addr → Prop) (H : Hp) (D : Ends) (Dd : DEnds) : Prop where
  nx : ∀ O' σ' H' E', Later O H O' H' → Rel G O' σ' H' E' → Dd.nx E' → D.nx σ' H'
  rt : ∀ v H' d n, Kp G.F.S G.Hs H' → G.F.I n H' → Dv G.B H' v d → Dd.rt d n → D.rt v H'
  bk : ∀ O' σ' H' E', Later O H O' H' → Rel G O' σ' H' E' → Dd.bk E' → D.bk σ' H'
  ct : ∀ O' σ' H' E', Later O H O' H' → Rel G O' σ' H' E' → Dd.ct E' → D.ct σ' H'
def lowS (t : TSd) : TS := fun D σ H => ∃ (O : Addr → Prop) (E : En) (Dd : DEnds), Rel G O σ H E ∧ Lk G O H D Dd ∧ t Dd E
end
theorem Lk.later {G : Gx} {O O1 : Addr → Prop} {H H1 : Hp} {D : Ends} {Dd : DEnds} (k : Lk G O H D Dd) (L : Later O H O1 H1) : Lk G O1 H1 D Dd :=
  ⟨fun O' σ' H' E' l => k.nx O' σ' H' E' (L.trans l), k.rt, fun O' σ' H' E' l => k.bk O' σ' H' E' (L.trans l), fun O' σ' H' E' l => k.ct O' σ' H' E' (L.trans l)⟩
section
variable {X : Cx} {G : Gx}
abbrev PD (X : Cx) (G : Gx) (e : Expr) (t : TD) : Prop := PE X e (low G RD t)
abbrev PB (X : Cx) (G : Gx) (e : Expr) (t : TD) : Prop := PE X e (low G (RB G) t)
abbrev PL (X : Cx) (G : Gx) (e : Expr) (t : TD) : Prop := PE X e (low G RL t)
abbrev PQ (X : Cx) (G : Gx) (e : Expr) (t : TDt) : Prop := PT X e (lowT G t)
abbrev PR (X : Cx) (G : Gx) (es : List Expr) (t : TDa) : Prop := PA X es (lowA G t)
abbrev PZ (X : Cx) (G : Gx) (st : Stmt) (t : TSd) : Prop := PS X st (lowS G t)
abbrev PZs (X : Cx) (G : Gx) (st : List Stmt) (t : TSd) : Prop := PSs X st (lowS G t)
theorem PE.wk {e : Expr} {t u : TE} (h : PE X e t) (k : ∀ σ H Q, u σ H Q → t σ H Q) : PE X e u := ⟨fun p s σ H Q I z => h.run p s σ H Q I (k σ H Q z)⟩
theorem PT.wk {e : Expr} {t u : TT} (h : PT X e t) (k : ∀ σ H Q, u σ H Q → t σ H Q) : PT X e u := ⟨fun p s σ H Q I z => h.run p s σ H Q I (k σ H Q z)⟩
theorem PA.wk {e : List Expr} {t u : TA} (h : PA X e t) (k : ∀ σ H Q, u σ H Q → t σ H Q) : PA X e u := ⟨fun c p s σ H Q I z => h.run c p s σ H Q I (k σ H Q z)⟩
theorem PS.wk {e : Stmt} {t u : TS} (h : PS X e t) (k : ∀ D σ H, u D σ H → t D σ H) : PS X e u := ⟨fun p s σ H D I z => h.run p s σ H D I (k D σ H z)⟩
theorem PSs.wk {e : List Stmt} {t u : TS} (h : PSs X e t) (k : ∀ D σ H, u D σ H → t D σ H) : PSs X e u := ⟨fun p s σ H D I z => h.run p s σ H D I (k D σ H z)⟩
/-- data is borrowed data; a new list is data -/
theorem PB.of {e : Expr} {t : TD} (h : PD X G e t) : PB X G e t := PE.wk h fun σ H Q ⟨O, E, Qd, r, i, z⟩ => ⟨O, E, Qd, r, fun d n v H' k s x q => i d n v H' k s (.inl x) q, z⟩
theorem PD.ofL {e : Expr} {t : TD} (h : PL X G e t) : PD X G e t := PE.wk h fun σ H Q ⟨O, E, Qd, r, i, z⟩ => ⟨O, E, Qd, r, fun d n v H' k s ⟨a, vs, ds, e1, e2, e3, e4, e5⟩ q => by
  subst e1 e2
  exact i _ n _ H' k s (Dv.mkL e4 (fun y => r.al a y e3) (e5.mp fun _ _ z => Dv.less' (fun _ y => .inl y) z)) q, z⟩

/-! ### names and constants -/
inductive opt {α : Type} (o : Option α) (Q : α → Prop) : Prop
  | mk (z : α) (e : o = some z) (q : Q z) : opt o Q
def dVar (i : Nat) : TD := fun E Q => match E.ρ[i]? with | some (.dat d) => Q d E.n | _ => False
def dBor (i : Nat) : TD := fun E Q => match E.ρ[i]? with | some (.dat d) => Q d E.n | some (.own ds) => Q (.list ds) E.n | _ => False
def dC (d : PyData) : TD := fun E Q => Q d E.n
theorem pd_var {i : Nat} {x : Str} {pos : Pos} (h : PE X (.Name x pos) (tVar i)) : PD X G (.Name x pos) (dVar i) := PE.wk h fun σ H Q ⟨O, E, Qd, r, im, z⟩ => by
  unfold dVar at z
  split at z
  · rename_i d e
    obtain ⟨v, e1, h1⟩ := r.dat i d e
    exact ⟨v, e1, im d E.n v H (Kp.refl H) r.str h1 z⟩
  · exact z.elim
theorem pb_var {i : Nat} {x : Str} {pos : Pos} (h : PE X (.Name x pos) (tVar i)) : PB X G (.Name x pos) (dBor i) := PE.wk h fun σ H Q ⟨O, E, Qd, r, im, z⟩ => by
  unfold dBor at z
  split at z
  · rename_i d e
    obtain ⟨v, e1, h1⟩ := r.dat i d e
    exact ⟨v, e1, im d E.n v H (Kp.refl H) r.str (.inl h1) z⟩
  · rename_i ds e
    obtain ⟨a, vs, e1, e2, _, e4, e5⟩ := r.own i ds e
    exact ⟨_, e1, im _ E.n _ H (Kp.refl H) r.str (.inr ⟨a, vs, ds, rfl, rfl, e2, e5, fun y => G.hb a y e4⟩) z⟩
  · exact z.elim
theorem pd_c {e : Expr} {v : V} {d : PyData} (h : PE X e (tC v)) (hd : ∀ O H, Dv O H v d) : PD X G e (dC d) := PE.wk h fun σ H Q ⟨O, E, Qd, r, im, z⟩ => im d E.n v H (Kp.refl H) r.str (hd O H) z
theorem pd_int {i : Int} {j : Nat} {pos : Pos} : PD X G (.Constant (.int i) j pos) (dC (.int i)) := pd_c pe_int fun _ _ => .int i
theorem pd_bl {i : Bool} {j : Nat} {pos : Pos} : PD X G (.Constant (.bool i) j pos) (dC (.bool i)) := pd_c pe_bl fun _ _ => .bl i
theorem pd_non {j : Nat} {pos : Pos} : PD X G (.Constant .none j pos) (dC .none) := pd_c pe_non fun _ _ => .non
theorem pd_str {i : Str} {j : Nat} {pos : Pos} : PD X G (.Constant (.str i) j pos) (dC (.str i)) := pd_c pe_str fun _ _ => .str i

/-! ### operators by values -/
theorem opt_of {α : Type} {o : Option α} {z : α} {Q : α → Prop} (e : o = some z) (q : Q z) : opt o Q := ⟨z, e, q⟩
theorem opt_el {α : Type} {o : Option α} {Q : α → Prop} (h : opt o Q) : ∃ z, o = some z ∧ Q z := by
  obtain ⟨z, e, q⟩ := h
  exact ⟨z, e, q⟩
theorem RB.bw {O : Addr → Prop} {H0 H : Hp} {v : V} {d : PyData} (h : RB G O H0 H v d) : Bw O H v d := by
  rcases h with h | ⟨a, vs, ds, e1, e2, e3, e4, _⟩
  · exact .inl h
  · exact .inr ⟨a, vs, ds, e1, e2, e3, e4⟩
theorem RB.kp {O : Addr → Prop} {σ : L2.St} {E : En} {H0 H1 H H' : Hp} {v : V} {d : PyData} (r : Rel G O σ H E) (k : Kp G.F.S H H') (h : RB G O H0 H v d) : RB G O H1 H' v d := by
  rcases h with h | ⟨a, vs, ds, e1, e2, e3, e4, e5⟩
  · exact .inl (Dv.later (r.lt k) h)
  · exact .inr ⟨a, vs, ds, e1, e2, k _ _ e3 (fun y => e5 (G.sb a y)), e4.later (r.lt k), e5⟩
/-- what an operation may add: objects that are new -/
def Nw (O : Addr → Prop) (H : Hp) (z : PyData) (Q : VK) : Prop := ∀ v H', Same H H' → Dv O H' v z → Q v H'
def NwL (O : Addr → Prop) (H : Hp) (z : PyData) (Q : VK) : Prop := ∀ v H', Same H H' → (∃ a vs ds, v = .ref a ∧ z = .list ds ∧ H a = none ∧ H' a = some (.lst vs) ∧ DvL (fun x => O x ∨ x = a) H' vs ds) → Q v H'
theorem nw_now {O : Addr → Prop} {H : Hp} {z : PyData} {Q : VK} {v : V} (h : Nw O H z Q) (d : Dv O H v z) : Q v H := h v H (fun _ _ e => e) d
theorem same_upd' {H : Hp} {p : Addr} {o : HO} (h : H p = none) : Same H (upd H p o) := fun b x e => by
  rw [upd_ne (ne_of_none e h)]
  exact e
theorem later_new {O : Addr → Prop} {H : Hp} {p : Addr} {o : HO} (h : H p = none) : Later O H O (upd H p o) := ⟨fun _ z => .inl z, fun b x e _ => Stay.of (same_upd' h b x e)⟩
theorem later_newO {O : Addr → Prop} {H : Hp} {p : Addr} {o : HO} (h : H p = none) : Later O H (fun x => O x ∨ x = p) (upd H p o) := ⟨fun x z => z.elim .inl fun y => .inr (y ▸ h), fun b x e _ => Stay.of (same_upd' h b x e)⟩
theorem nw_tup {O : Addr → Prop} {H : Hp} {ds : List PyData} {Q : VK} {vs : List V} {p : Addr} (al : ∀ a, O a → H a ≠ none) (h : Nw O H (.tuple ds) Q) (hp : H p = none) (d : DvL O H vs ds) : Q (.ref p) (upd H p (.tup vs)) :=
  h _ _ (same_upd' hp) (Dv.mkT upd_same (fun z => al p z hp) (d.later (later_new hp)))
theorem nw_lst {O : Addr → Prop} {H : Hp} {ds : List PyData} {Q : VK} {vs : List V} {p : Addr} (h : NwL O H (.list ds) Q) (hp : H p = none) (d : DvL O H vs ds) : Q (.ref p) (upd H p (.lst vs)) :=
  h _ _ (same_upd' hp) ⟨p, vs, ds, rfl, rfl, hp, upd_same, d.later (later_newO hp)⟩
theorem Rel.fin {O : Addr → Prop} {σ : L2.St} {E : En} {H H' : Hp} (r : Rel G O σ H E) (s : Same H H') : Kp G.F.S H H' ∧ G.F.I E.n H' := ⟨Kp.of_same s, G.F.keep _ _ _ r.str fun x o _ e => s x o e⟩

def Op2 (r : R2) (g : PyData → PyData → Option PyData) : Prop := ∀ (O : Addr → Prop) (H : Hp) (x y : V) (dx dy z : PyData) (Q : VK), (∀ a, O a → H a ≠ none) → Bw O H x dx → Bw O H y dy → g dx dy = some z → Nw O H z Q → r x y H Q
def Op2L (r : R2) (g : PyData → PyData → Option PyData) : Prop := ∀ (O : Addr → Prop) (H : Hp) (x y : V) (dx dy z : PyData) (Q : VK), (∀ a, O a → H a ≠ none) → Bw O H x dx → Bw O H y dy → g dx dy = some z → NwL O H z Q → r x y H Q
def dOp (g : PyData → PyData → Option PyData) (ta tb : TD) : TD := fun E Q => ta E fun x n => tb ⟨E.ρ, n⟩ fun y m => opt (g x y) fun z => Q z m
theorem op_core {r : R2} {g : PyData → PyData → Option PyData} {R : RR} {ta tb : TD} (N : ∀ (O : Addr → Prop) (H0 H H' : Hp) (v : V) (z : PyData), Prop)
    (l : ∀ (O : Addr → Prop) (H0 H : Hp) (x y : V) (dx dy z : PyData) (Q : VK), (∀ a, H0 a ≠ none → H a ≠ none) → (∀ a, O a → H a ≠ none) → Bw O H x dx → Bw O H y dy → g dx dy = some z → (∀ v H', Same H H' → R O H0 H' v z → Q v H') → r x y H Q) :
    ∀ σ H Q, low G R (dOp g ta tb) σ H Q → tOp r (low G (RB G) ta) (low G (RB G) tb) σ H Q := by
  rintro σ H Q ⟨O, E, Qd, rl, im, z⟩
  refine ⟨O, E, _, rl, ?_, z⟩
  rintro dx n x H1 k1 i1 rx q1
  have r1 := rl.step k1 i1
  refine ⟨O, _, _, r1, ?_, q1⟩
  rintro dy m y H2 k2 i2 ry q2
  obtain ⟨w, e, q⟩ := opt_el q2
  have r2 := r1.step k2 i2
  refine l O H H2 x y dx dy w Q (fun a h0 => ?_) r2.al (rx.kp r1 k2 (H1 := H)).bw ry.bw e (fun v H' s rv => ?_)
  · by_cases q : G.F.S a
    · exact G.F.al m H2 a i2 q
    · cases e0 : H a with
      | none => exact (h0 e0).elim
      | some u => exact Stay.ne (Stay.trans (k1 a u e0 q) fun u' e' => k2 a u' e' q)
  · obtain ⟨k3, i3⟩ := r2.fin s
    exact im w m v H' ((k1.trans k2).trans k3) i3 rv q
theorem dop {r : R2} {g : PyData → PyData → Option PyData} {ta tb : TD} (l : Op2 r g) : ∀ σ H Q, low G RD (dOp g ta tb) σ H Q → tOp r (low G (RB G) ta) (low G (RB G) tb) σ H Q :=
  op_core (fun _ _ _ _ _ _ => True) fun O H0 H x y dx dy z Q _ al bx by' e q => l O H x y dx dy z Q al bx by' e fun v H' s d => q v H' s d
theorem dopL {r : R2} {g : PyData → PyData → Option PyData} {ta tb : TD} (l : Op2L r g) : ∀ σ H Q, low G RL (dOp g ta tb) σ H Q → tOp r (low G (RB G) ta) (low G (RB G) tb) σ H Q :=
  op_core (fun _ _ _ _ _ _ => True) fun O H0 H x y dx dy z Q hh al bx by' e q => l O H x y dx dy z Q al bx by' e fun v H' s ⟨a, vs, ds, e1, e2, e3, e4, e5⟩ => q v H' s ⟨a, vs, ds, e1, e2, Classical.byContradiction fun n => hh a n e3, e4, e5⟩
end
end Dl
namespace Dl
open PySem PySem.Spec PyProof.Rows L2 Gd
section
variable {X : Cx} {G : Gx}
theorem Bw.int {O : Addr → Prop} {H : Hp} {v : V} {i : Int} (h : Bw O H v (.int i)) : v = .int i := by
  rcases h with h | ⟨a, vs, ds, _, e, _⟩
  · cases h; rfl
  · cases e
theorem Bw.bl {O : Addr → Prop} {H : Hp} {v : V} {i : Bool} (h : Bw O H v (.bool i)) : v = .bl i := by
  rcases h with h | ⟨a, vs, ds, _, e, _⟩
  · cases h; rfl
  · cases e
theorem Bw.lst {O : Addr → Prop} {H : Hp} {v : V} {ds : List PyData} (h : Bw O H v (.list ds)) : ∃ a vs, v = .ref a ∧ H a = some (.lst vs) ∧ DvL O H vs ds := by
  rcases h with h | ⟨a, vs, es, e1, e, e2, e3⟩
  · obtain ⟨a, xs, e1, e2, _, e4⟩ := Dv.unL h
    exact ⟨a, xs, e1, e2, e4⟩
  · cases e
    exact ⟨a, vs, e1, e2, e3⟩
theorem Bw.tup {O : Addr → Prop} {H : Hp} {v : V} {ds : List PyData} (h : Bw O H v (.tuple ds)) : ∃ a vs, v = .ref a ∧ H a = some (.tup vs) ∧ DvL O H vs ds ∧ Dv O H v (.tuple ds) := by
  rcases h with h | ⟨a, vs, es, e1, e, e2, e3⟩
  · obtain ⟨a, xs, e1, e2, _, e4⟩ := Dv.unT h
    exact ⟨a, xs, e1, e2, e4, h⟩
  · cases e
theorem Bw.non {O : Addr → Prop} {H : Hp} {v : V} {d : PyData} (h : Bw O H v d) : decide (v = V.non) = (match d with | .none => true | _ => false) := by
  rcases h with h | ⟨a, vs, es, e1, e, e2, e3⟩
  · cases h <;> first | rfl | exact decide_eq_false (fun z => by cases z)
  · subst e1 e
    exact decide_eq_false (fun z => by cases z)
theorem OpR.or {f : Value → Value → Sem Value} {r r' : R2} (h : OpR X f r) (h' : OpR X f r') : OpR X f (fun x y H Q => r x y H Q ∨ r' x y H Q) := fun p s σ H x y v u Q I rx ry q => q.elim (h p s σ H x y v u Q I rx ry) (h' p s σ H x y v u Q I rx ry)
theorem CallR.or {f : Value} {r r' : List V → Hp → VK → Prop} (h : CallR X f r) (h' : CallR X f r') : CallR X f (fun x H Q => r x H Q ∨ r' x H Q) := fun p s σ H xs us Q I rv q => q.elim (h p s σ H xs us Q I rv) (h' p s σ H xs us Q I rv)
theorem DvL.app {O : Addr → Prop} {H : Hp} : ∀ {a b : List V} {c d : List PyData}, DvL O H a c → DvL O H b d → DvL O H (a ++ b) (c ++ d)
  | _, _, _, _, .nil, h => h
  | _, _, _, _, .cons r t, h => .cons r (DvL.app t h)
theorem DvL.dropL {O : Addr → Prop} {H : Hp} : ∀ {a : List V} {c : List PyData} (n : Nat), DvL O H a c → DvL O H (a.drop n) (c.drop n)
  | _, _, 0, h => by simpa using h
  | _, _, _ + 1, .nil => by simpa using Paired.nil
  | _, _, n + 1, .cons _ t => by simpa using DvL.dropL n t
theorem DvL.takeL {O : Addr → Prop} {H : Hp} : ∀ {a : List V} {c : List PyData} (n : Nat), DvL O H a c → DvL O H (a.take n) (c.take n)
  | _, _, 0, _ => by simpa using Paired.nil
  | _, _, _ + 1, .nil => by simpa using Paired.nil
  | _, _, n + 1, .cons r t => by simpa using Paired.cons r (DvL.takeL n t)
theorem DvL.get {O : Addr → Prop} {H : Hp} : ∀ {a : List V} {c : List PyData}, DvL O H a c → ∀ {i : Nat} {d : PyData}, c[i]? = some d → ∃ v, a[i]? = some v ∧ Dv O H v d
  | _, _, .nil, i, d, e => by simp at e
  | _, _, .cons r t, 0, d, e => by
    simp only [List.getElem?_cons_zero, Option.some.injEq] at e
    subst e
    exact ⟨_, rfl, r⟩
  | _, _, .cons r t, i + 1, d, e => by
    obtain ⟨v, h1, h2⟩ := DvL.get t (by simpa using e)
    exact ⟨v, by simpa using h1, h2⟩
theorem DvL.setL {O : Addr → Prop} {H : Hp} {v : V} {d : PyData} (hv : Dv O H v d) : ∀ {a : List V} {c : List PyData} (n : Nat), DvL O H a c → DvL O H (a.set n v) (c.set n d)
  | _, _, _, .nil => by simpa using Paired.nil
  | _, _, 0, .cons _ t => by simpa using Paired.cons hv t
  | _, _, n + 1, .cons r t => by simpa using Paired.cons r (DvL.setL hv n t)
theorem DvL.repL {O : Addr → Prop} {H : Hp} {a : List V} {c : List PyData} (h : DvL O H a c) : ∀ n : Nat, DvL O H (List.replicate n a).flatten (List.replicate n c).flatten
  | 0 => by simpa using Paired.nil
  | n + 1 => by
    rw [List.replicate_succ, List.flatten_cons, List.replicate_succ, List.flatten_cons]
    exact DvL.app h (DvL.repL h n)
theorem sq_of {K : PySem.W.Frag} {H : Hp} {a : Addr} {xs : List V} (h : H a = some (.lst xs)) : SqL K H a xs := .inl (.inl h)
theorem st_of {K : PySem.W.Frag} {H : Hp} {a : Addr} {xs : List V} (h : H a = some (.tup xs)) : SqT K H a xs := .inl (.inl h)
theorem sz_of {n : Nat} (h : n ≤ 100000) : n ≤ sizeLine := Nat.le_trans h (by decide)
theorem sz_lt {n : Nat} (h : n < 100000) : n < sizeLine := Nat.lt_of_lt_of_le h (by decide)

/-! ### the operators on data -/
def gI (f : Int → Int → PyData) : PyData → PyData → Option PyData
  | .int i, .int j => some (f i j)
  | _, _ => none
theorem gI_el {f : Int → Int → PyData} {dx dy z : PyData} (h : gI f dx dy = some z) : ∃ i j, dx = .int i ∧ dy = .int j ∧ z = f i j := by
  unfold gI at h
  split at h
  · cases h; exact ⟨_, _, rfl, rfl, rfl⟩
  · cases h
theorem op2_I0 {g : Int → Int → V} {f : Int → Int → PyData} (h : ∀ i j O H, Dv O H (g i j) (f i j)) : Op2 (rI0 g) (gI f) := by
  intro O H x y dx dy z Q al bx by' e q
  obtain ⟨i, j, rfl, rfl, rfl⟩ := gI_el e
  exact ⟨i, j, bx.int, by'.int, nw_now q (h i j O H)⟩
def gIc (c : Int → Int → Bool) (f : Int → Int → PyData) : PyData → PyData → Option PyData
  | .int i, .int j => if c i j then some (f i j) else none
  | _, _ => none
theorem op2_I {C : Int → Int → Prop} {g : Int → Int → V} {c : Int → Int → Bool} {f : Int → Int → PyData} (hc : ∀ i j, c i j = true → C i j) (h : ∀ i j O H, Dv O H (g i j) (f i j)) : Op2 (rI C g) (gIc c f) := by
  intro O H x y dx dy z Q al bx by' e q
  unfold gIc at e
  split at e
  · split at e
    · cases e; exact ⟨_, _, bx.int, by'.int, hc _ _ (by assumption), nw_now q (h _ _ O H)⟩
    · cases e
  · cases e
def small2 (a b : List PyData) : Bool := decide (a.length + b.length ≤ 100000)
def gCatT : PyData → PyData → Option PyData
  | .tuple a, .tuple b => if small2 a b then some (.tuple (a ++ b)) else none
  | _, _ => none
theorem op2_catT {K : PySem.W.Frag} : Op2 (rCatA K) gCatT := by
  intro O H x y dx dy z Q al bx by' e q
  unfold gCatT at e
  split at e
  · split at e
    · cases e
      rename_i xs ys hs
      obtain ⟨a, vs, rfl, h1, d1, w1⟩ := bx.tup
      obtain ⟨b, us, rfl, h2, d2, w2⟩ := by'.tup
      have l1 := d1.length
      have l2 := d2.length
      refine ⟨a, b, vs, us, rfl, rfl, st_of h1, st_of h2, sz_of (by rw [l1, l2]; exact of_decide_eq_true hs), fun e => ?_, fun _ e => ?_, fun _ _ p hp => nw_tup al q hp (d1.app d2)⟩
      · subst e
        cases d1
        exact nw_now q w2
      · subst e
        cases d2
        rw [List.append_nil] at q
        exact nw_now q w1
    · cases e
  · cases e
def gCatL : PyData → PyData → Option PyData
  | .list a, .list b => if small2 a b then some (.list (a ++ b)) else none
  | _, _ => none
theorem op2_catL : Op2L rCat gCatL := by
  intro O H x y dx dy z Q al bx by' e q
  unfold gCatL at e
  split at e
  · split at e
    · cases e
      rename_i xs ys hs
      obtain ⟨a, vs, rfl, h1, d1⟩ := bx.lst
      obtain ⟨b, us, rfl, h2, d2⟩ := by'.lst
      exact ⟨a, b, vs, us, rfl, rfl, h1, h2, sz_of (by rw [d1.length, d2.length]; exact of_decide_eq_true hs), fun p hp => nw_lst q hp (d1.app d2)⟩
    · cases e
  · cases e
theorem op2_ofL {r : R2} {g : PyData → PyData → Option PyData} (h : Op2L r g) : Op2 r g := fun O H x y dx dy z Q al bx by' e q => h O H x y dx dy z Q al bx by' e fun v H' s ⟨a, vs, ds, e1, e2, e3, e4, e5⟩ => by
  subst e1 e2
  exact q _ H' s (Dv.mkL e4 (fun z => al a z e3) (e5.mp fun _ _ z => Dv.less' (fun _ y => .inl y) z))
def gAdd : PyData → PyData → Option PyData
  | .int i, .int j => some (.int (i + j))
  | .tuple a, .tuple b => if small2 a b then some (.tuple (a ++ b)) else none
  | .list a, .list b => if small2 a b then some (.list (a ++ b)) else none
  | _, _ => none
theorem op2_add {K : PySem.W.Frag} : Op2 (fun x y H Q => rI0 (fun i j => .int (i + j)) x y H Q ∨ (rCatA K x y H Q ∨ rCat x y H Q)) gAdd := by
  intro O H x y dx dy z Q al bx by' e q
  unfold gAdd at e
  split at e
  · cases e; exact .inl (op2_I0 (fun i j O H => .int _) O H x y _ _ _ Q al bx by' rfl q)
  · exact .inr (.inl (op2_catT O H x y _ _ _ Q al bx by' e q))
  · exact .inr (.inr (op2_ofL op2_catL O H x y _ _ _ Q al bx by' e q))
  · cases e
theorem pd_add {a b : Expr} {ta tb : TD} {pos : Pos} (ha : PB X G a ta) (hb : PB X G b tb) : PD X G (.BinOp a .Add b pos) (dOp gAdd ta tb) := PE.wk (pe_op (op_add.or (op_catA.or op_cat)) ha hb) (dop op2_add)
theorem pl_add {a b : Expr} {ta tb : TD} {pos : Pos} (ha : PB X G a ta) (hb : PB X G b tb) : PL X G (.BinOp a .Add b pos) (dOp gCatL ta tb) := PE.wk (pe_op op_cat ha hb) (dopL op2_catL)
theorem pd_sub {a b : Expr} {ta tb : TD} {pos : Pos} (ha : PB X G a ta) (hb : PB X G b tb) : PD X G (.BinOp a .Sub b pos) (dOp (gI fun i j => .int (i - j)) ta tb) := PE.wk (pe_op op_sub ha hb) (dop (op2_I0 fun i j O H => .int _))
def cMul (i j : Int) : Bool := decide ((-(2 ^ 63) ≤ i ∧ i ≤ 2 ^ 63) ∨ (-(2 ^ 63) ≤ j ∧ j ≤ 2 ^ 63))
theorem pd_mul {a b : Expr} {ta tb : TD} {pos : Pos} (ha : PB X G a ta) (hb : PB X G b tb) : PD X G (.BinOp a .Mult b pos) (dOp (gIc cMul fun i j => .int (i * j)) ta tb) :=
  PE.wk (pe_op op_mul ha hb) (dop (op2_I (fun i j h => (of_decide_eq_true h : (-(2 ^ 63) ≤ i ∧ i ≤ 2 ^ 63) ∨ (-(2 ^ 63) ≤ j ∧ j ≤ 2 ^ 63)).elim (fun h => .inl (by constructor <;> omega)) (fun h => .inr (by constructor <;> omega))) fun i j O H => .int _))
def gRepL : PyData → PyData → Option PyData
  | .list a, .int k => if decide (k ≤ 1000 ∧ -1000 ≤ k ∧ a.length ≤ 100) then some (.list (List.replicate k.toNat a).flatten) else none
  | _, _ => none
theorem op2_repL : Op2L rRep gRepL := by
  intro O H x y dx dy z Q al bx by' e q
  unfold gRepL at e
  split at e
  · split at e
    · cases e
      rename_i xs k hs
      obtain ⟨a, vs, rfl, h1, d1⟩ := bx.lst
      have := of_decide_eq_true hs
      have l := d1.length
      refine ⟨a, k, vs, rfl, by'.int, h1, by omega, by omega, sz_of ?_, fun p hp => nw_lst q hp (d1.repL _)⟩
      have h1 : vs.length ≤ 100 := by omega
      have h2 : k.toNat ≤ 1000 := by omega
      exact Nat.le_trans (Nat.mul_le_mul h1 h2) (by decide)
    · cases e
  · cases e
theorem pl_rep {a b : Expr} {ta tb : TD} {pos : Pos} (ha : PB X G a ta) (hb : PB X G b tb) : PL X G (.BinOp a .Mult b pos) (dOp gRepL ta tb) := PE.wk (pe_op op_rep ha hb) (dopL op2_repL)
def gRepT : PyData → PyData → Option PyData
  | .tuple a, .int k => if decide (2 ≤ k ∧ k ≤ 1000 ∧ a.length ≤ 1000 ∧ a ≠ []) then some (.tuple (List.replicate k.toNat a).flatten) else none
  | _, _ => none
def cFdiv (i j : Int) : Bool := decide (0 < j ∧ j < 1073741824)
theorem pd_fdiv {a b : Expr} {ta tb : TD} {pos : Pos} (ha : PB X G a ta) (hb : PB X G b tb) : PD X G (.BinOp a .FloorDiv b pos) (dOp (gIc cFdiv fun i j => .int (i / j)) ta tb) :=
  PE.wk (pe_op op_fdiv ha hb) (dop (op2_I (fun i j h => (of_decide_eq_true h : 0 < j ∧ j < 1073741824)) fun i j O H => .int _))
def cMod (i j : Int) : Bool := decide (0 < j)
theorem pd_mod {a b : Expr} {ta tb : TD} {pos : Pos} (ha : PB X G a ta) (hb : PB X G b tb) : PD X G (.BinOp a .Mod b pos) (dOp (gIc cMod fun i j => .int (i % j)) ta tb) :=
  PE.wk (pe_op op_mod ha hb) (dop (op2_I (fun i j h => of_decide_eq_true h) fun i j O H => .int _))
def cPow (i j : Int) : Bool := decide (0 ≤ j ∧ j ≤ 1000 ∧ i.natAbs < 2 ^ 60)
theorem pd_pow {a b : Expr} {ta tb : TD} {pos : Pos} (ha : PB X G a ta) (hb : PB X G b tb) : PD X G (.BinOp a .Pow b pos) (dOp (gIc cPow fun i j => .int (i ^ j.toNat)) ta tb) :=
  PE.wk (pe_op op_pow ha hb) (dop (op2_I (fun i j h => by have := of_decide_eq_true h; exact ⟨this.1, by omega, Nat.lt_trans this.2.2 (by decide)⟩) fun i j O H => .int _))

/-! ### comparisons -/
def dTest (t : TD) : TDt := fun E Q => t E fun d n => match d with | .bool b => Q b n | _ => False
theorem low_test {te : TE} {t : TD} (h : ∀ σ H Q, low G RD t σ H Q → te σ H Q) : ∀ σ H Q, lowT G (dTest t) σ H Q → tTest te σ H Q := by
  rintro σ H Q ⟨O, E, Qd, r, im, z⟩
  refine h σ H _ ⟨O, E, _, r, ?_, z⟩
  rintro d n v H' k i rv q
  cases rv with
  | bl b => exact ⟨b, rfl, im b n H' k i q⟩
  | _ => exact q.elim
theorem pd_cmp {op : CmpOp} {r : R2} {g : PyData → PyData → Option PyData} {a b : Expr} {ta tb : TD} {pos : Pos} (ho : OpR X (compareOp op) r) (l : Op2 r g) (ha : PB X G a ta) (hb : PB X G b tb) (hm : behindInMarks op b = false) : PD X G (.Compare a [op] [b] pos) (dOp g ta tb) := PE.wk (pe_cmpR ho ha hb hm) (dop l)
theorem pq_cmp {op : CmpOp} {r : R2} {g : PyData → PyData → Option PyData} {a b : Expr} {ta tb : TD} {pos : Pos} (ho : OpR X (compareOp op) r) (l : Op2 r g) (ha : PB X G a ta) (hb : PB X G b tb) (hm : behindInMarks op b = false) : PQ X G (.Compare a [op] [b] pos) (dTest (dOp g ta tb)) := PT.wk (pt_cmpR ho ha hb hm) (low_test (dop l))
abbrev gLt := gI fun i j => .bool (decide (i < j))
abbrev gLe := gI fun i j => .bool (decide (i ≤ j))
abbrev gGt := gI fun i j => .bool (decide (j < i))
abbrev gGe := gI fun i j => .bool (decide (j ≤ i))
theorem l_lt : Op2 (rI0 fun i j => .bl (decide (i < j))) gLt := op2_I0 fun _ _ _ _ => .bl _
theorem l_le : Op2 (rI0 fun i j => .bl (decide (i ≤ j))) gLe := op2_I0 fun _ _ _ _ => .bl _
theorem l_gt : Op2 (rI0 fun i j => .bl (decide (j < i))) gGt := op2_I0 fun _ _ _ _ => .bl _
theorem l_ge : Op2 (rI0 fun i j => .bl (decide (j ≤ i))) gGe := op2_I0 fun _ _ _ _ => .bl _
def dChain (g g' : PyData → PyData → Option PyData) (ta tb tc : TD) : TD := fun E Q => ta E fun x n => tb ⟨E.ρ, n⟩ fun y m => opt (g x y) fun z => match z with
  | .bool true => tc ⟨E.ρ, m⟩ fun w k => opt (g' y w) fun u => Q u k
  | .bool false => Q (.bool false) m
  | _ => False
theorem dchain {r r' : R2} {g g' : PyData → PyData → Option PyData} {ta tb tc : TD} (l : Op2 r g) (l' : Op2 r' g') : ∀ σ H Q, low G RD (dChain g g' ta tb tc) σ H Q → tChain r r' (low G (RB G) ta) (low G (RB G) tb) (low G (RB G) tc) σ H Q := by
  rintro σ H Q ⟨O, E, Qd, rl, im, z⟩
  refine ⟨O, E, _, rl, ?_, z⟩
  rintro dx n x H1 k1 i1 rx q1
  have r1 := rl.step k1 i1
  refine ⟨O, _, _, r1, ?_, q1⟩
  rintro dy m y H2 k2 i2 ry q2
  obtain ⟨w, e, q⟩ := opt_el q2
  have r2 := r1.step k2 i2
  refine l O H2 x y dx dy w _ r2.al (rx.kp r1 k2 (H1 := H)).bw ry.bw e (fun v H' s rv => ?_)
  obtain ⟨k3, i3⟩ := r2.fin s
  have r3 := r2.step k3 i3
  cases rv with
  | bl b =>
    refine ⟨b, rfl, ?_⟩
    cases b with
    | false => exact im _ m _ H' ((k1.trans k2).trans k3) i3 (.bl false) q
    | true =>
      refine ⟨O, _, _, r3, ?_, q⟩
      rintro dw k w' H4 k4 i4 rw' q4
      obtain ⟨u, e4, q5⟩ := opt_el q4
      have r4 := r3.step k4 i4
      refine l' O H4 y w' dy dw u Q r4.al ((ry.kp r2 k3 (H1 := H)).kp r3 k4 (H1 := H)).bw rw'.bw e4 (fun v5 H5 s5 rv5 => ?_)
      obtain ⟨k5, i5⟩ := r4.fin s5
      exact im u k v5 H5 ((((k1.trans k2).trans k3).trans k4).trans k5) i5 rv5 q5
  | _ => exact q.elim
theorem pd_chain {op op' : CmpOp} {r r' : R2} {g g' : PyData → PyData → Option PyData} {a b c : Expr} {ta tb tc : TD} {pos : Pos} (ho : OpR X (compareOp op) r) (ho' : OpR X (compareOp op') r') (l : Op2 r g) (l' : Op2 r' g') (ha : PB X G a ta) (hb : PB X G b tb) (hc : PB X G c tc)
    (hm : lastMarks [op, op'] [b, c] = false := by with_unfolding_all rfl) : PD X G (.Compare a [op, op'] [b, c] pos) (dChain g g' ta tb tc) := PE.wk (pe_chain ho ho' ha hb hc hm) (dchain l l')
theorem pq_chain {op op' : CmpOp} {r r' : R2} {g g' : PyData → PyData → Option PyData} {a b c : Expr} {ta tb tc : TD} {pos : Pos} (ho : OpR X (compareOp op) r) (ho' : OpR X (compareOp op') r') (l : Op2 r g) (l' : Op2 r' g') (ha : PB X G a ta) (hb : PB X G b tb) (hc : PB X G c tc)
    (hm : lastMarks [op, op'] [b, c] = false := by with_unfolding_all rfl) : PQ X G (.Compare a [op, op'] [b, c] pos) (dTest (dChain g g' ta tb tc)) := PT.wk (pt_chain ho ho' ha hb hc hm) (low_test (dchain l l'))
/-- data of any depth, compared -/
theorem Dv.dp {K : PySem.W.Frag} {O : Addr → Prop} {H : Hp} {v : V} {d : PyData} (h : Dv O H v d) (s : d.canLay0 = true) : Dp K H v d := by
  have all : ∀ {xs : List V} {ds : List PyData}, xs.length = ds.length → (∀ (i : Nat) (x : V) (d : PyData), xs[i]? = some x → ds[i]? = some d → d.canLay0 = true → Dp K H x d) → PyData.canLayAll0 ds = true → DpAll K H xs ds := by
    intro xs
    induction xs with
    | nil =>
      intro ds l _ _
      cases ds with
      | nil => exact .nil
      | cons d ds => cases l
    | cons x xs ih =>
      intro ds l f s
      cases ds with
      | nil => cases l
      | cons d ds =>
        rw [PyData.canLayAll0, Bool.and_eq_true] at s
        exact .cons (f 0 x d rfl rfl s.1) (ih (Nat.succ.inj l) (fun i y e h1 h2 => f (i + 1) y e h1 h2) s.2)
  induction h with
  | non => exact .non
  | bl b => exact .bl b
  | int i => exact .int i
  | str x => exact .str x
  | lst e n l _ ih =>
    rw [PyData.canLay0] at s
    exact .lst (sq_of e) (all l ih s)
  | tup e n l _ ih =>
    rw [PyData.canLay0] at s
    exact .tup (st_of e) (all l ih s)
  | dct e n p =>
    rw [PyData.canLay0] at s
    cases s
  | dcv e n l _ ih =>
    rw [PyData.canLay0] at s
    cases s
theorem Bw.dp {K : PySem.W.Frag} {O : Addr → Prop} {H : Hp} {v : V} {d : PyData} (h : Bw O H v d) (s : SeqAt.shaped d = true) : Dp K H v d := by
  have s1 := SeqAt.canLay_of_shaped s
  rcases h with h | ⟨a, vs, ds, e1, e2, e3, e4⟩
  · exact Dv.dp h s1
  · subst e1 e2
    have hh : Dv (fun _ => False) H (.ref a) (.list ds) := Dv.mkL e3 id (e4.mp fun _ _ z => Dv.less' (fun _ y => y.elim) z)
    exact Dv.dp hh s1
@[irreducible] def gEq (neg : Bool) : PyData → PyData → Option PyData
  | .int i, .int j => some (.bool (neg != decide (i = j)))
  | .str i, .str j => some (.bool (neg != decide (i = j)))
  | x, y => if SeqAt.shaped x && SeqAt.shaped y then some (.bool (neg != PyData.eqv x y)) else none
theorem shaped_int (i : Int) : SeqAt.shaped (.int i) = true := by
  simp [SeqAt.shaped, PyData.canLay0, PyData.depth]
theorem Bw.str {O : Addr → Prop} {H : Hp} {v : V} {i : Str} (h : Bw O H v (.str i)) : v = .str i := by
  rcases h with h | ⟨a, vs, ds, _, e, _⟩
  · cases h; rfl
  · cases e
theorem gEq_el {neg : Bool} {dx dy z : PyData} (h : gEq neg dx dy = some z) : (SeqAt.shaped dx = true ∧ SeqAt.shaped dy = true ∧ z = .bool (neg != PyData.eqv dx dy)) ∨ (∃ a b, dx = .str a ∧ dy = .str b ∧ z = .bool (neg != decide (V.str a = V.str b))) := by
  unfold gEq at h
  split at h
  · cases h
    refine .inl ⟨shaped_int _, shaped_int _, ?_⟩
    rw [PyData.eqv]
    rfl
  · cases h
    refine .inr ⟨_, _, rfl, rfl, ?_⟩
    congr 2
    exact decide_eq_decide.mpr ⟨fun e => by rw [e], fun e => V.str.inj e⟩
  · split at h
    · rename_i hs
      rw [Bool.and_eq_true] at hs
      cases h
      exact .inl ⟨hs.1, hs.2, rfl⟩
    · cases h
abbrev rEqX (K : PySem.W.Frag) : R2 := fun x y H Q => rEqD K x y H Q ∨ rEq x y H Q
abbrev rNeX (K : PySem.W.Frag) : R2 := fun x y H Q => rNeD K x y H Q ∨ rNe x y H Q
theorem op_eqX (hu : X.A.units + 64 < cLine) : OpR X (compareOp .Eq) (rEqX X.K) := (op_eqD hu).or op_eq
theorem op_neX (hu : X.A.units + 64 < cLine) : OpR X (compareOp .NotEq) (rNeX X.K) := (op_neD hu).or op_ne
theorem l_eq {K : PySem.W.Frag} : Op2 (rEqX K) (gEq false) := by
  intro O H x y dx dy z Q al bx by' e q
  rcases gEq_el e with ⟨s1, s2, rfl⟩ | ⟨a, b, rfl, rfl, rfl⟩
  · refine .inl ⟨dx, dy, bx.dp s1, by'.dp s2, s1, s2, nw_now q ?_⟩
    rw [Bool.false_bne]
    exact .bl _
  · cases bx.str
    cases by'.str
    refine .inr ⟨rfl, nw_now q ?_⟩
    rw [Bool.false_bne]
    exact .bl _
theorem l_ne {K : PySem.W.Frag} : Op2 (rNeX K) (gEq true) := by
  intro O H x y dx dy z Q al bx by' e q
  rcases gEq_el e with ⟨s1, s2, rfl⟩ | ⟨a, b, rfl, rfl, rfl⟩
  · refine .inl ⟨dx, dy, bx.dp s1, by'.dp s2, s1, s2, nw_now q ?_⟩
    rw [Bool.true_bne]
    exact .bl _
  · cases bx.str
    cases by'.str
    refine .inr ⟨rfl, nw_now q ?_⟩
    rw [Bool.true_bne]
    exact .bl _
def isNon : PyData → Bool
  | .none => true
  | _ => false
def gIs (neg : Bool) : PyData → PyData → Option PyData
  | x, .none => some (.bool (neg != isNon x))
  | .bool a, .bool b => some (.bool (neg != decide (a = b)))
  | _, _ => none
def rIs (neg : Bool) : R2 := fun x y H Q => (y = .non ∧ Q (.bl (neg != decide (x = .non))) H) ∨ (∃ a b, x = .bl a ∧ y = .bl b ∧ Q (.bl (neg != decide (a = b))) H)
theorem Bw.isN {O : Addr → Prop} {H : Hp} {v : V} (h : Bw O H v .none) : v = .non := by
  rcases h with h | ⟨a, vs, es, e1, e, e2, e3⟩
  · cases h; rfl
  · cases e
theorem Bw.isNon {O : Addr → Prop} {H : Hp} {v : V} {d : PyData} (h : Bw O H v d) : decide (v = V.non) = isNon d := by
  rcases h with h | ⟨a, vs, es, e1, e, e2, e3⟩
  · cases h <;> first | rfl | exact decide_eq_false (fun z => by cases z)
  · subst e1 e
    exact decide_eq_false (fun z => by cases z)
theorem l_is {neg : Bool} : Op2 (rIs neg) (gIs neg) := by
  intro O H x y dx dy z Q al bx by' e q
  unfold gIs at e
  split at e
  · cases e
    refine .inl ⟨by'.isN, nw_now q ?_⟩
    rw [bx.isNon]
    exact .bl _
  · cases e
    exact .inr ⟨_, _, bx.bl, by'.bl, nw_now q (.bl _)⟩
  · cases e
theorem op_is' : OpR X (compareOp .Is) (rIs false) := by
  have h := (op_isN (X := X)).or op_is_bl
  intro p s σ H x y v u Q I rx ry q
  refine h p s σ H x y v u Q I rx ry ?_
  rcases q with q | ⟨a, b, q⟩
  · rw [Bool.false_bne] at q
    exact .inl q
  · rw [Bool.false_bne] at q
    exact .inr ⟨a, b, q⟩
theorem op_isnot' : OpR X (compareOp .IsNot) (rIs true) := by
  have h := (op_notN (X := X)).or op_isnot_bl
  intro p s σ H x y v u Q I rx ry q
  refine h p s σ H x y v u Q I rx ry ?_
  rcases q with q | ⟨a, b, q⟩
  · rw [Bool.true_bne] at q
    exact .inl q
  · rw [Bool.true_bne] at q
    exact .inr ⟨a, b, q⟩
/-- flat data as values -/
def flatD : PyData → Bool
  | .none => true
  | .bool _ => true
  | .int _ => true
  | .str _ => true
  | _ => false
def dV : PyData → V
  | .none => .non
  | .bool b => .bl b
  | .int i => .int i
  | .str x => .str x
  | _ => .non
theorem Bw.flat {O : Addr → Prop} {H : Hp} {v : V} {d : PyData} (h : Bw O H v d) (f : flatD d = true) : v = dV d ∧ flatV v = true := by
  rcases h with h | ⟨a, vs, es, e1, e, e2, e3⟩
  · cases h <;> first | exact ⟨rfl, rfl⟩ | cases f
  · subst e
    cases f
theorem DvL.flat {O : Addr → Prop} {H : Hp} : ∀ {vs : List V} {ds : List PyData}, DvL O H vs ds → ds.all flatD = true → vs = ds.map dV ∧ vs.all flatV = true
  | _, _, .nil, _ => ⟨rfl, rfl⟩
  | _, _, .cons r t, f => by
    rw [List.all_cons, Bool.and_eq_true] at f
    obtain ⟨h1, h2⟩ := (Bw.flat (.inl r) f.1)
    obtain ⟨h3, h4⟩ := DvL.flat t f.2
    subst h1 h3
    exact ⟨rfl, by rw [List.all_cons, h2, h4]; rfl⟩
def gIn (neg : Bool) : PyData → PyData → Option PyData
  | x, .list ds => if flatD x && ds.all flatD then some (.bool (if neg then !inV (dV x) (ds.map dV) else inV (dV x) (ds.map dV))) else none
  | x, .tuple ds => if flatD x && ds.all flatD then some (.bool (if neg then !inV (dV x) (ds.map dV) else inV (dV x) (ds.map dV))) else none
  | _, _ => none
theorem l_in {K : PySem.W.Frag} {neg : Bool} : Op2 (rIn K neg) (gIn neg) := by
  intro O H x y dx dy z Q al bx by' e q
  unfold gIn at e
  split at e
  · split at e
    · rename_i hs
      rw [Bool.and_eq_true] at hs
      cases e
      obtain ⟨a, vs, rfl, h1, d1⟩ := by'.lst
      obtain ⟨rfl, f1⟩ := bx.flat hs.1
      obtain ⟨rfl, f2⟩ := d1.flat hs.2
      exact ⟨a, _, rfl, .inl (sq_of h1), f1, f2, nw_now q (.bl _)⟩
    · cases e
  · split at e
    · rename_i hs
      rw [Bool.and_eq_true] at hs
      cases e
      obtain ⟨a, vs, rfl, h1, d1, _⟩ := by'.tup
      obtain ⟨rfl, f1⟩ := bx.flat hs.1
      obtain ⟨rfl, f2⟩ := d1.flat hs.2
      exact ⟨a, _, rfl, .inr (st_of h1), f1, f2, nw_now q (.bl _)⟩
    · cases e
  · cases e
/-! ### subscripts -/
theorem atI_dv {O : Addr → Prop} {H : Hp} {vs : List V} {ds : List PyData} {i : Int} {d : PyData} (h : DvL O H vs ds) (e : atI ds i = some d) : ∃ v, atI vs i = some v ∧ Dv O H v d := by
  unfold atI at e ⊢
  rw [h.length]
  cases ei : ixN ds.length i with
  | none => rw [ei] at e; cases e
  | some j =>
    rw [ei] at e
    exact h.get e
def gIx : PyData → PyData → Option PyData
  | .list ds, .int i => atI ds i
  | .tuple ds, .int i => atI ds i
  | _, _ => none
theorem l_ix {K : PySem.W.Frag} : Op2 (fun x y H Q => rIxL K x y H Q ∨ rIxT K x y H Q) gIx := by
  intro O H x y dx dy z Q al bx by' e q
  unfold gIx at e
  split at e
  · obtain ⟨a, vs, rfl, h1, d1⟩ := bx.lst
    obtain ⟨v, e1, e2⟩ := atI_dv d1 e
    exact .inl ⟨a, vs, _, v, rfl, by'.int, sq_of h1, e1, nw_now q e2⟩
  · obtain ⟨a, vs, rfl, h1, d1, _⟩ := bx.tup
    obtain ⟨v, e1, e2⟩ := atI_dv d1 e
    exact .inr ⟨a, vs, _, v, rfl, by'.int, st_of h1, e1, nw_now q e2⟩
  · cases e
theorem pd_ix {a b : Expr} {ta tb : TD} {pos : Pos} (ha : PB X G a ta) (hb : PB X G b tb) (hs : PlainIx b) : PD X G (.Subscript a b pos) (dOp gIx ta tb) := PE.wk (pe_ix (ix_list.or ix_tup) ha hb hs) (dop l_ix)
theorem un_core {g : PyData → Option PyData} {ta : TD} {r : V → Hp → VK → Prop} (l : ∀ (O : Addr → Prop) (H : Hp) (x : V) (dx z : PyData) (Q : VK), (∀ a, O a → H a ≠ none) → Bw O H x dx → g dx = some z → Nw O H z Q → r x H Q) :
    ∀ σ H Q, low G RD (fun E Q => ta E fun x n => opt (g x) fun z => Q z n) σ H Q → tUn r (low G (RB G) ta) σ H Q := by
  rintro σ H Q ⟨O, E, Qd, rl, im, z⟩
  refine ⟨O, E, _, rl, ?_, z⟩
  rintro dx n x H1 k1 i1 rx q1
  have r1 := rl.step k1 i1
  obtain ⟨w, e, q⟩ := opt_el q1
  refine l O H1 x dx w Q r1.al rx.bw e (fun v H' s rv => ?_)
  obtain ⟨k3, i3⟩ := r1.fin s
  exact im w n v H' (k1.trans k3) i3 rv q
def dUn (g : PyData → Option PyData) (ta : TD) : TD := fun E Q => ta E fun x n => opt (g x) fun z => Q z n
def gNeg : PyData → Option PyData
  | .int i => some (.int (-i))
  | _ => none
theorem pd_neg {a : Expr} {ta : TD} {pos : Pos} (ha : PB X G a ta) : PD X G (.UnaryOp .USub a pos) (dUn gNeg ta) := PE.wk (pe_un un_neg ha) (un_core fun O H x dx z Q al bx e q => by
  unfold gNeg at e
  split at e
  · cases e; exact ⟨_, bx.int, nw_now q (.int _)⟩
  · cases e)
end
end Dl
namespace Dl
open PySem PySem.Spec PyProof.Rows L2 Gd
section
variable {X : Cx} {G : Gx}
/-! ### argument lists, displays -/
theorem ArR.later {O O' : Addr → Prop} {H H' : Hp} {v : V} {a : Ar} (L : Later O H O' H') (h : ArR O H v a) : ArR O' H' v a := by
  cases a with
  | d x => exact Dv.later L h
  | c u => exact h
def aNil : TDa := fun E Q => Q [] E.n
def aCons (t : TD) (ts : TDa) : TDa := fun E Q => t E fun d n => ts ⟨E.ρ, n⟩ fun as m => Q (.d d :: as) m
def aCon (i : Nat) (ts : TDa) : TDa := fun E Q => match E.ρ[i]? with | some (.con v) => ts E fun as m => Q (.c v :: as) m | _ => False
theorem pr_nil : PR X G [] aNil := PA.wk pa_nil fun σ H Q ⟨O, E, Qd, r, im, z⟩ => im [] E.n [] H (Kp.refl H) r.str .nil z
theorem pr_cons {e : Expr} {es : List Expr} {t : TD} {ts : TDa} (h : PD X G e t) (hs : PR X G es ts) (hst : starEach (e :: es) X.env = (false, eval e X.env) :: starEach es X.env := by rfl) : PR X G (e :: es) (aCons t ts) := PA.wk (pa_cons h hs hst) fun σ H Q ⟨O, E, Qd, r, im, z⟩ => by
  refine ⟨O, E, _, r, ?_, z⟩
  rintro d n v H1 k1 i1 rv q1
  have r1 := r.step k1 i1
  refine ⟨O, _, _, r1, ?_, q1⟩
  rintro as m vs H2 k2 i2 rvs q2
  exact im _ m _ H2 (k1.trans k2) i2 (.cons (show ArR O H2 v (.d d) from Dv.later (r1.lt k2) rv) rvs) q2
theorem pr_con {i : Nat} {x : Str} {pos : Pos} {es : List Expr} {ts : TDa} (h : PE X (.Name x pos) (tVar i)) (hs : PR X G es ts) (hst : starEach (.Name x pos :: es) X.env = (false, eval (.Name x pos) X.env) :: starEach es X.env := by rfl) : PR X G (.Name x pos :: es) (aCon i ts) := PA.wk (pa_cons h hs hst) fun σ H Q ⟨O, E, Qd, r, im, z⟩ => by
  unfold aCon at z
  split at z
  · rename_i v e
    refine ⟨v, r.con i v e, O, E, _, r, ?_, z⟩
    rintro as m vs H2 k2 i2 rvs q2
    exact im _ m _ H2 k2 i2 (.cons (show ArR O H2 v (.c v) from rfl) rvs) q2
  · exact z.elim
def dats : List Ar → Option (List PyData)
  | [] => some []
  | .d x :: r => (dats r).map (x :: ·)
  | .c _ :: _ => none
theorem dats_dv {O : Addr → Prop} {H : Hp} : ∀ {vs : List V} {as : List Ar} {ds : List PyData}, Paired (ArR O H) vs as → dats as = some ds → DvL O H vs ds
  | _, _, _, .nil, e => by cases e; exact .nil
  | _, _, _, .cons (b := .d x) r t, e => by
    rw [dats, Option.map_eq_some_iff] at e
    obtain ⟨ds, e1, rfl⟩ := e
    exact .cons r (dats_dv t e1)
  | _, _, _, .cons (b := .c v) r t, e => by cases e
def dTup (ts : TDa) : TD := fun E Q => ts E fun as n => opt (dats as) fun ds => decide (ds.length ≤ 100000) = true ∧ Q (.tuple ds) n
def dLst (ts : TDa) : TD := fun E Q => ts E fun as n => opt (dats as) fun ds => decide (ds.length ≤ 100000) = true ∧ Q (.list ds) n
theorem pd_tup {es : List Expr} {ts : TDa} {pos : Pos} {x1} (h : PR X G es ts) : PD X G (.Tuple es x1 pos) (dTup ts) := PE.wk (pe_tup h) fun σ H Q ⟨O, E, Qd, r, im, z⟩ => by
  refine ⟨O, E, _, r, ?_, z⟩
  rintro as n vs H1 k1 i1 rv q1
  obtain ⟨ds, e, hl, q⟩ := opt_el q1
  have d := dats_dv rv e
  have r1 := r.step k1 i1
  refine ⟨sz_of (by rw [d.length]; exact of_decide_eq_true hl), fun p hp => ?_⟩
  refine nw_tup (Q := Q) r1.al (fun v H' s dv => ?_) hp d
  obtain ⟨k3, i3⟩ := r1.fin s
  exact im _ n v H' (k1.trans k3) i3 dv q
theorem pl_lst {es : List Expr} {ts : TDa} {pos : Pos} (h : PR X G es ts) : PL X G (.List es pos) (dLst ts) := PE.wk (pe_lst h) fun σ H Q ⟨O, E, Qd, r, im, z⟩ => by
  refine ⟨O, E, _, r, ?_, z⟩
  rintro as n vs H1 k1 i1 rv q1
  obtain ⟨ds, e, hl, q⟩ := opt_el q1
  have d := dats_dv rv e
  have r1 := r.step k1 i1
  refine ⟨sz_of (by rw [d.length]; exact of_decide_eq_true hl), fun p hp => ?_⟩
  refine nw_lst (Q := Q) (O := O) (fun v H' s ⟨a, us, es, e1, e2, e3, e4, e5⟩ => ?_) hp d
  obtain ⟨k3, i3⟩ := r1.fin s
  refine im _ n v H' (k1.trans k3) i3 ⟨a, us, es, e1, e2, ?_, e4, e5⟩ q
  cases e0 : H a with
  | none => rfl
  | some u =>
    by_cases qs : G.F.S a
    · exact (G.F.al n H1 a i1 qs e3).elim
    · exact (Stay.ne (k1 a u e0 qs) e3).elim
/-! ### calls -/
def Cl1 (r : List V → Hp → VK → Prop) (g : PyData → Option PyData) : Prop := ∀ (O : Addr → Prop) (H : Hp) (x : V) (dx z : PyData) (Q : VK), (∀ a, O a → H a ≠ none) → Bw O H x dx → g dx = some z → Nw O H z Q → r [x] H Q
def Cl1L (r : List V → Hp → VK → Prop) (g : PyData → Option PyData) : Prop := ∀ (O : Addr → Prop) (H : Hp) (x : V) (dx z : PyData) (Q : VK), (∀ a, O a → H a ≠ none) → Bw O H x dx → g dx = some z → NwL O H z Q → r [x] H Q
theorem cl1 {g : PyData → Option PyData} {ta : TD} {r : List V → Hp → VK → Prop} (l : Cl1 r g) : ∀ σ H Q, low G RD (dUn g ta) σ H Q → tCB r (tCons (low G (RB G) ta) tNil) σ H Q :=
  un_core (r := fun x H Q => r [x] H Q) l
theorem cl1L {g : PyData → Option PyData} {ta : TD} {r : List V → Hp → VK → Prop} (l : Cl1L r g) : ∀ σ H Q, low G RL (dUn g ta) σ H Q → tCB r (tCons (low G (RB G) ta) tNil) σ H Q := by
  rintro σ H Q ⟨O, E, Qd, rl, im, z⟩
  refine ⟨O, E, _, rl, ?_, z⟩
  rintro dx n x H1 k1 i1 rx q1
  have r1 := rl.step k1 i1
  obtain ⟨w, e, q⟩ := opt_el q1
  refine l O H1 x dx w Q r1.al rx.bw e (fun v H' s ⟨a, us, es, e1, e2, e3, e4, e5⟩ => ?_)
  obtain ⟨k3, i3⟩ := r1.fin s
  refine im w n v H' (k1.trans k3) i3 ⟨a, us, es, e1, e2, ?_, e4, e5⟩ q
  cases e0 : H a with
  | none => rfl
  | some u =>
    by_cases qs : G.F.S a
    · exact (G.F.al n H1 a i1 qs e3).elim
    · exact (Stay.ne (k1 a u e0 qs) e3).elim
def gLen : PyData → Option PyData
  | .list ds => some (.int (ds.length : Nat))
  | .tuple ds => some (.int (ds.length : Nat))
  | _ => none
theorem l_len {K : PySem.W.Frag} : Cl1 (fun xs H Q => ∃ p ys, xs = [.ref p] ∧ (SqL K H p ys ∨ SqT K H p ys) ∧ Q (.int ys.length) H) gLen := by
  intro O H x dx z Q al bx e q
  unfold gLen at e
  split at e
  · cases e
    obtain ⟨a, vs, rfl, h1, d1⟩ := bx.lst
    refine ⟨a, vs, rfl, .inl (sq_of h1), nw_now q ?_⟩
    rw [d1.length]
    exact .int _
  · cases e
    obtain ⟨a, vs, rfl, h1, d1, _⟩ := bx.tup
    refine ⟨a, vs, rfl, .inr (st_of h1), nw_now q ?_⟩
    rw [d1.length]
    exact .int _
  · cases e
theorem pd_len {a : Expr} {ta : TD} {p pos : Pos} (ha : PB X G a ta) (hm : X.mg "len" = none) (hg : Gl X "len" := by rfl) (hs : starEach [a] X.env = (false, eval a X.env) :: starEach [] X.env := by rfl) : PD X G (.Call (.Name "len" p) [a] [] pos) (dUn gLen ta) :=
  PE.wk (pe_callB call_len_seq hg hm PySem.boot_len (pa_cons ha pa_nil hs) (he := hs)) (cl1 l_len)
def gTupD : PyData → Option PyData
  | .list ds => some (.tuple ds)
  | .tuple ds => some (.tuple ds)
  | _ => none
theorem l_tuple {K : PySem.W.Frag} : Cl1 (fun xs H Q => ∃ p ys, xs = [.ref p] ∧ ((SqL K H p ys ∧ ∀ l, H l = none → Q (.ref l) (upd H l (.tup ys))) ∨ (SqT K H p ys ∧ Q (.ref p) H))) gTupD := by
  intro O H x dx z Q al bx e q
  unfold gTupD at e
  split at e
  · cases e
    obtain ⟨a, vs, rfl, h1, d1⟩ := bx.lst
    exact ⟨a, vs, rfl, .inl ⟨sq_of h1, fun p hp => nw_tup al q hp d1⟩⟩
  · cases e
    obtain ⟨a, vs, rfl, h1, d1, w⟩ := bx.tup
    exact ⟨a, vs, rfl, .inr ⟨st_of h1, nw_now q w⟩⟩
  · cases e
theorem pd_tuple {a : Expr} {ta : TD} {p pos : Pos} (ha : PB X G a ta) (hm : X.mg "tuple" = none) (hg : Gl X "tuple" := by rfl) (hs : starEach [a] X.env = (false, eval a X.env) :: starEach [] X.env := by rfl) : PD X G (.Call (.Name "tuple" p) [a] [] pos) (dUn gTupD ta) :=
  PE.wk (pe_callTy call_tuple_of hg hm (by decide +kernel) (pa_cons ha pa_nil hs) (he := hs)) (cl1 l_tuple)
def gList : PyData → Option PyData
  | .list ds => some (.list ds)
  | .tuple ds => some (.list ds)
  | _ => none
theorem l_list {K : PySem.W.Frag} : Cl1L (fun xs H Q => ∃ p ys, xs = [.ref p] ∧ (SqL K H p ys ∨ SqT K H p ys) ∧ ∀ l, H l = none → Q (.ref l) (upd H l (.lst ys))) gList := by
  intro O H x dx z Q al bx e q
  unfold gList at e
  split at e
  · cases e
    obtain ⟨a, vs, rfl, h1, d1⟩ := bx.lst
    exact ⟨a, vs, rfl, .inl (sq_of h1), fun p hp => nw_lst q hp d1⟩
  · cases e
    obtain ⟨a, vs, rfl, h1, d1, w⟩ := bx.tup
    exact ⟨a, vs, rfl, .inr (st_of h1), fun p hp => nw_lst q hp d1⟩
  · cases e
theorem pl_list {a : Expr} {ta : TD} {p pos : Pos} (ha : PB X G a ta) (hm : X.mg "list" = none) (hg : Gl X "list" := by rfl) (hs : starEach [a] X.env = (false, eval a X.env) :: starEach [] X.env := by rfl) : PL X G (.Call (.Name "list" p) [a] [] pos) (dUn gList ta) :=
  PE.wk (pe_callTy call_list_of hg hm (by decide +kernel) (pa_cons ha pa_nil hs) (he := hs)) (cl1L l_list)
/-- repr, where no repr is under way -/
def gRepr (d : PyData) : Option PyData := if d.showable && decide (d.shown.length ≤ sizeLine) && decide (d.depth ≤ 60) then some (.str d.shown) else none
theorem l_repr : Cl1 (rRepr (fun _ => False)) gRepr := by
  intro O H x dx z Q al bx e q
  unfold gRepr at e
  split at e
  · cases e
    rename_i h
    rw [Bool.and_eq_true, Bool.and_eq_true] at h
    refine ⟨x, dx, rfl, ?_, h.1.1, of_decide_eq_true h.1.2, of_decide_eq_true h.2, nw_now q (.str _)⟩
    rcases bx with h | ⟨a, vs, ds, e1, e2, e3, e4⟩
    · exact Dv.less' (fun _ z => z.elim) h
    · subst e1 e2
      exact Dv.mkL e3 id (e4.mp fun _ _ z => Dv.less' (fun _ y => y.elim) z)
  · cases e
theorem pd_repr {a : Expr} {ta : TD} {p pos : Pos} (hg' : X.A.guards = some []) (hu : X.A.units + 64 < cLine) (ha : PB X G a ta) (hm : X.mg "repr" = none) (hg : Gl X "repr" := by rfl) (hs : starEach [a] X.env = (false, eval a X.env) :: starEach [] X.env := by rfl) : PD X G (.Call (.Name "repr" p) [a] [] pos) (dUn gRepr ta) :=
  PE.wk (pe_callB (call_repr hg' hu) hg hm (by decide +kernel) (pa_cons ha pa_nil hs) (he := hs)) (cl1 l_repr)
/-- two arguments -/
def Cl2 (r : List V → Hp → VK → Prop) (g : PyData → PyData → Option PyData) : Prop := Op2 (fun x y H Q => r [x, y] H Q) g
theorem cl2 {g : PyData → PyData → Option PyData} {ta tb : TD} {r : List V → Hp → VK → Prop} (l : Cl2 r g) : ∀ σ H Q, low G RD (dOp g ta tb) σ H Q → tCB r (tCons (low G (RB G) ta) (tCons (low G (RB G) tb) tNil)) σ H Q :=
  dop (r := fun x y H Q => r [x, y] H Q) l
abbrev gMax2 := gI fun i j => .int (if j > i then j else i)
abbrev gMin2 := gI fun i j => .int (if j < i then j else i)
theorem pd_max2 {a b : Expr} {ta tb : TD} {p pos : Pos} (hc : X.calm = true) (ha : PB X G a ta) (hb : PB X G b tb) (hm : X.mg "max" = none) (hg : Gl X "max" := by rfl) (hs : starEach [a, b] X.env = (false, eval a X.env) :: starEach [b] X.env := by rfl) (hs2 : starEach [b] X.env = (false, eval b X.env) :: starEach [] X.env := by rfl)
    (hpl : (backTo pos (starEach [b] X.env)).any (·.1) = false := by rfl) : PD X G (.Call (.Name "max" p) [a, b] [] pos) (dOp gMax2 ta tb) :=
  PE.wk (pe_callB (call_max2 hc) hg hm (by decide +kernel) (pa_cons ha (pa_cons hb pa_nil hs2) hs) (he := hs) (hpl := hpl)) (cl2 fun O H x y dx dy z Q al bx by' e q => by
    obtain ⟨i, j, rfl, rfl, rfl⟩ := gI_el e
    cases bx.int
    cases by'.int
    exact ⟨i, j, rfl, nw_now q (.int _)⟩)
theorem pd_min2 {a b : Expr} {ta tb : TD} {p pos : Pos} (hc : X.calm = true) (ha : PB X G a ta) (hb : PB X G b tb) (hm : X.mg "min" = none) (hg : Gl X "min" := by rfl) (hs : starEach [a, b] X.env = (false, eval a X.env) :: starEach [b] X.env := by rfl) (hs2 : starEach [b] X.env = (false, eval b X.env) :: starEach [] X.env := by rfl)
    (hpl : (backTo pos (starEach [b] X.env)).any (·.1) = false := by rfl) : PD X G (.Call (.Name "min" p) [a, b] [] pos) (dOp gMin2 ta tb) :=
  PE.wk (pe_callB (call_min2 hc) hg hm (by decide +kernel) (pa_cons ha (pa_cons hb pa_nil hs2) hs) (he := hs) (hpl := hpl)) (cl2 fun O H x y dx dy z Q al bx by' e q => by
    obtain ⟨i, j, rfl, rfl, rfl⟩ := gI_el e
    cases bx.int
    cases by'.int
    exact ⟨i, j, rfl, nw_now q (.int _)⟩)
/-- a def's promise over data -/
abbrev Con := Fr → List Ar → Nat → (PyData → Nat → Prop) → Prop
def spD (C : Con) (m : Nat) : Sp := fun vs H Q _ => vs.length = m ∧ ∃ (F : Fr) (B : Addr → Prop) (as : List Ar) (n : Nat) (Qd : PyData → Nat → Prop), (∀ x, F.S x → B x) ∧ Hb B H ∧ Paired (ArR B H) vs as ∧ F.I n H ∧
  (∀ d n v H', Kp F.S H H' → F.I n H' → Dv B H' v d → Qd d n → Q v H') ∧ C F as n Qd
def pu (f : List PyData → Option PyData) : Con := fun _ as n Q => opt (dats as) fun ds => opt (f ds) fun d => Q d n
def dCall (F : Fr) (C : Con) (m : Nat) (ts : TDa) : TD := fun E Q => ts E fun as n => as.length = m ∧ C F as n Q
theorem pd_call {k m : Nat} {f : Addr} {fd : FuncData} {ps : List Str} {C : Con} {x : Str} {p pos : Pos} {e : Expr} {es : List Expr} {ts : TDa} (F : FnOk X.prog X.w X.K X.mg X.base CX0 k f fd ps (spD C m)) (hr : Room k X.A) (hm : X.mg x = some (.ref f)) (hk : PySem.W.keepIn X.K (.ref f) = true) (hb : Binds X.K fd ps [])
    (ha : PR X G (e :: es) ts) (hg : Gl X x := by rfl) (hdb : (x == ("__debug__" : Str)) = false := by decide) (he : starEach (e :: es) X.env = (false, eval e X.env) :: starEach es X.env := by rfl) (hpl : (backTo pos (starEach es X.env)).any (·.1) = false := by rfl) :
    PD X G (.Call (.Name x p) (e :: es) [] pos) (dCall G.F C m ts) := PE.wk (pe_call F hr hg hm hk hb .nil pass0 ha hdb he hpl) fun σ H Q ⟨O, E, Qd, r, im, z⟩ => by
  refine ⟨O, E, _, r, ?_, z⟩
  rintro as n vs H1 k1 i1 rv ⟨q0, q1⟩
  have r1 := r.step k1 i1
  rw [List.append_nil]
  exact ⟨rv.length.trans q0, G.F, O, as, n, _, r.sO, r1.aB, rv, i1, fun d n' v H' k2 i2 dv q2 => im d n' v H' (k1.trans k2) i2 dv q2, q1⟩
/-! ### conditions -/
def dIf (tt : TDt) (ta tb : TD) : TD := fun E Q => tt E fun b n => if b = true then ta ⟨E.ρ, n⟩ Q else tb ⟨E.ρ, n⟩ Q
theorem px_if {R : RR} {c a b : Expr} {tt : TDt} {ta tb : TD} {pos : Pos} (up : ∀ {O : Addr → Prop} {H H1 H2 : Hp} {v : V} {d : PyData}, (∀ x, H x ≠ none → H1 x ≠ none) → R O H1 H2 v d → R O H H2 v d) (hc : PQ X G c tt) (ha : PE X a (low G R ta)) (hb : PE X b (low G R tb)) : PE X (.IfExp c a b pos) (low G R (dIf tt ta tb)) := PE.wk (pe_ifExp hc ha hb) fun σ H Q ⟨O, E, Qd, r, im, z⟩ => by
  refine ⟨O, E, _, r, ?_, z⟩
  rintro c n H1 k1 i1 q1
  have r1 := r.step k1 i1
  have u : ∀ x, H x ≠ none → H1 x ≠ none := fun x h0 => by
    by_cases qs : G.F.S x
    · exact G.F.al n H1 x i1 qs
    · cases e0 : H x with
      | none => exact (h0 e0).elim
      | some o => exact Stay.ne (k1 x o e0 qs)
  cases c with
  | true =>
    refine iteT ?_
    rw [if_pos rfl] at q1
    exact ⟨O, _, _, r1, fun d m v H' k2 i2 rv q2 => im d m v H' (k1.trans k2) i2 (up u rv) q2, q1⟩
  | false =>
    refine iteF ?_
    rw [if_neg (by decide)] at q1
    exact ⟨O, _, _, r1, fun d m v H' k2 i2 rv q2 => im d m v H' (k1.trans k2) i2 (up u rv) q2, q1⟩
theorem pd_if {c a b : Expr} {tt : TDt} {ta tb : TD} {pos : Pos} (hc : PQ X G c tt) (ha : PD X G a ta) (hb : PD X G b tb) : PD X G (.IfExp c a b pos) (dIf tt ta tb) := px_if (fun _ h => h) hc ha hb
def qAnd (t u : TDt) : TDt := fun E Q => t E fun b n => if b = true then u ⟨E.ρ, n⟩ Q else Q false n
def qOr (t u : TDt) : TDt := fun E Q => t E fun b n => if b = true then Q true n else u ⟨E.ρ, n⟩ Q
def qNot (t : TDt) : TDt := fun E Q => t E fun b n => Q (!b) n
abbrev PWd (X : Cx) (G : Gx) (e : Expr) (t : TDt) : Prop := PW X e (lowT G t)
theorem PW.wk {e : Expr} {t u : TT} (h : PW X e t) (k : ∀ σ H Q, u σ H Q → t σ H Q) : PW X e u := ⟨fun w p s σ H Q I z => h.run w p s σ H Q I (k σ H Q z)⟩
theorem w_and {a b : Expr} {rest : List Expr} {t u : TDt} {pos : Pos} (ha : PQ X G a t) (hb : PWd X G (.BoolOp .And (b :: rest) pos) u) : PWd X G (.BoolOp .And (a :: b :: rest) pos) (qAnd t u) := PW.wk (pw_and ha hb) fun σ H Q ⟨O, E, Qd, r, im, z⟩ => by
  refine ⟨O, E, _, r, ?_, z⟩
  rintro c n H1 k1 i1 q1
  have r1 := r.step k1 i1
  cases c with
  | true =>
    refine iteT ?_
    rw [if_pos rfl] at q1
    exact ⟨O, _, _, r1, fun b m H' k2 i2 q2 => im b m H' (k1.trans k2) i2 q2, q1⟩
  | false =>
    refine iteF ?_
    rw [if_neg (by decide)] at q1
    exact im _ n H1 k1 i1 q1
theorem w_or {a b : Expr} {rest : List Expr} {t u : TDt} {pos : Pos} (ha : PQ X G a t) (hb : PWd X G (.BoolOp .Or (b :: rest) pos) u) : PWd X G (.BoolOp .Or (a :: b :: rest) pos) (qOr t u) := PW.wk (pw_or ha hb) fun σ H Q ⟨O, E, Qd, r, im, z⟩ => by
  refine ⟨O, E, _, r, ?_, z⟩
  rintro c n H1 k1 i1 q1
  have r1 := r.step k1 i1
  cases c with
  | true =>
    refine iteT ?_
    rw [if_pos rfl] at q1
    exact im _ n H1 k1 i1 q1
  | false =>
    refine iteF ?_
    rw [if_neg (by decide)] at q1
    exact ⟨O, _, _, r1, fun b m H' k2 i2 q2 => im b m H' (k1.trans k2) i2 q2, q1⟩
theorem w_and1 {a : Expr} {t : TDt} {pos : Pos} (ha : PQ X G a t) : PWd X G (.BoolOp .And [a] pos) t := pw_and1 ha
theorem w_or1 {a : Expr} {t : TDt} {pos : Pos} (ha : PQ X G a t) : PWd X G (.BoolOp .Or [a] pos) t := pw_or1 ha
theorem pq_not {a : Expr} {t : TDt} {pos : Pos} (ha : PQ X G a t) : PQ X G (.UnaryOp .Not a pos) (qNot t) := PT.wk (pt_not ha) fun σ H Q ⟨O, E, Qd, r, im, z⟩ => ⟨O, E, _, r, fun b n H' k i q => im (!b) n H' k i q, z⟩
theorem pq_val {e : Expr} {t : TD} (h : PD X G e t) (he : ∀ whole, isTrue e X.env whole = (do let v ← whole; standAt e.pos; holding [v] (truthy v)) := by intro _; rfl) : PQ X G e (dTest t) := PT.wk (pt_val h he) (low_test fun _ _ _ z => z)
def vAnd (t u : TD) : TD := fun E Q => t E fun d n => match d with | .bool true => u ⟨E.ρ, n⟩ Q | .bool false => Q (.bool false) n | _ => False
def vOr (t u : TD) : TD := fun E Q => t E fun d n => match d with | .bool true => Q (.bool true) n | .bool false => u ⟨E.ρ, n⟩ Q | _ => False
def vNot (t : TD) : TD := fun E Q => t E fun d n => match d with | .bool b => Q (.bool (!b)) n | _ => False
theorem pd_one {op : BoolOp} {a : Expr} {t : TD} {pos : Pos} (h : PD X G a t) : PD X G (.BoolOp op [a] pos) t := pe_one h
theorem pd_and {a b : Expr} {rest : List Expr} {t u : TD} {pos : Pos} (ha : PD X G a t) (hb : PD X G (.BoolOp .And (b :: rest) pos) u) : PD X G (.BoolOp .And (a :: b :: rest) pos) (vAnd t u) := PE.wk (pe_and ha hb) fun σ H Q ⟨O, E, Qd, r, im, z⟩ => by
  refine ⟨O, E, _, r, ?_, z⟩
  rintro d n v H1 k1 i1 rv q1
  have r1 := r.step k1 i1
  cases rv with
  | bl c =>
    refine ⟨c, rfl, ?_⟩
    cases c with
    | true => exact iteT ⟨O, _, _, r1, fun b m v H' k2 i2 x q2 => im b m v H' (k1.trans k2) i2 x q2, q1⟩
    | false => exact iteF (im _ n _ H1 k1 i1 (.bl false) q1)
  | _ => exact q1.elim
theorem pd_or {a b : Expr} {rest : List Expr} {t u : TD} {pos : Pos} (ha : PD X G a t) (hb : PD X G (.BoolOp .Or (b :: rest) pos) u) : PD X G (.BoolOp .Or (a :: b :: rest) pos) (vOr t u) := PE.wk (pe_or ha hb) fun σ H Q ⟨O, E, Qd, r, im, z⟩ => by
  refine ⟨O, E, _, r, ?_, z⟩
  rintro d n v H1 k1 i1 rv q1
  have r1 := r.step k1 i1
  cases rv with
  | bl c =>
    refine ⟨c, rfl, ?_⟩
    cases c with
    | true => exact iteT (im _ n _ H1 k1 i1 (.bl true) q1)
    | false => exact iteF ⟨O, _, _, r1, fun b m v H' k2 i2 x q2 => im b m v H' (k1.trans k2) i2 x q2, q1⟩
  | _ => exact q1.elim
theorem pd_not {a : Expr} {t : TD} {pos : Pos} (ha : PD X G a t) : PD X G (.UnaryOp .Not a pos) (vNot t) := PE.wk (pe_not ha) fun σ H Q ⟨O, E, Qd, r, im, z⟩ => by
  refine ⟨O, E, _, r, ?_, z⟩
  rintro d n v H1 k1 i1 rv q1
  cases rv with
  | bl c => exact ⟨c, rfl, im _ n _ H1 k1 i1 (.bl _) q1⟩
  | _ => exact q1.elim

/-! ### statements -/
def zSeq (t u : TSd) : TSd := fun D E => t { D with nx := u D } E
def zNil : TSd := fun D E => D.nx E
def zSet (i : Nat) (t : TD) : TSd := fun D E => t E fun d n => D.nx ⟨E.ρ.set i (.dat d), n⟩
def zOwn (i : Nat) (t : TD) : TSd := fun D E => t E fun d n => match d with | .list ds => D.nx ⟨E.ρ.set i (.own ds), n⟩ | _ => False
def zMove (i j : Nat) : TSd := fun D E => match E.ρ[j]? with | some (.own ds) => D.nx ⟨(E.ρ.set j .no).set i (.own ds), E.n⟩ | some (.dat d) => D.nx ⟨E.ρ.set i (.dat d), E.n⟩ | _ => False
def zRet (t : TD) : TSd := fun D E => t E D.rt
def zIf (tt : TDt) (t u : TSd) : TSd := fun D E => tt E fun b n => if b = true then t D ⟨E.ρ, n⟩ else u D ⟨E.ρ, n⟩
theorem zs_nil : PZs X G [] zNil := PSs.wk pss_nil fun D σ H ⟨O, E, Dd, r, k, z⟩ => k.nx O σ H E (Later.refl O H) r z
theorem zs_cons {st : Stmt} {rest : List Stmt} {t u : TSd} (h1 : PZ X G st t) (h2 : PZs X G rest u) : PZs X G (st :: rest) (zSeq t u) := PSs.wk (pss_cons h1 h2) fun D σ H ⟨O, E, Dd, r, k, z⟩ =>
  ⟨O, E, { Dd with nx := u Dd }, r, ⟨fun O' σ' H' E' l r' q => ⟨O', E', Dd, r', k.later l, q⟩, k.rt, k.bk, k.ct⟩, z⟩
theorem zs_one {st : Stmt} {t : TSd} (h1 : PZ X G st t) : PZs X G [st] t := pss_one h1
theorem z_set {i : Nat} {x : Str} {e : Expr} {t : TD} {pos pos' : Pos} (hN : X.N.Nodup) (hi : X.N[i]? = some x) (hx : Loc X.env.scope x) (he : PD X G e t) (hs : swapsWith e (some (.Name x pos')) pos.line X.env = pure false := by rfl) (hf : X.fn x = true ∨ X.env.scope.names.lookup x = some .local := by first | exact .inl rfl | exact .inr rfl | assumption) :
    PZ X G (.Assign [.Name x pos'] e pos) (zSet i t) := PS.wk (ps_set hN hi hx he hs hf) fun D σ H ⟨O, E, Dd, r, k, z⟩ => by
  refine ⟨O, E, _, r, ?_, z⟩
  rintro d n v H1 k1 i1 rv q1
  exact k.nx O _ H1 _ (r.lt k1) ((r.step k1 i1).set rv) q1
theorem own_core {i : Nat} {te : TE} {t : TD} (h : ∀ σ H Q, low G RL t σ H Q → te σ H Q) : ∀ D σ H, lowS G (zOwn i t) D σ H → tAsg te (gName i) D σ H := by
  rintro D σ H ⟨O, E, Dd, r, k, z⟩
  refine h σ H _ ⟨O, E, _, r, ?_, z⟩
  rintro d n v H1 k1 i1 ⟨a, vs, ds, rfl, rfl, e3, e4, e5⟩ q1
  have r1 := r.step k1 i1
  have nO : ¬ O a := fun y => r.al a y e3
  have hs0 : G.Hs a = none := by
    cases e0 : G.Hs a with
    | none => rfl
    | some u =>
      by_cases qs : G.F.S a
      · exact (nO (r.sO a qs)).elim
      · exact (Stay.ne (r.kp a u e0 qs) e3).elim
  have L1 : Later O H (fun x => O x ∨ x = a) H1 := ⟨fun x y => y.elim .inl fun y => .inr (y ▸ e3), fun x u y ny => (r.lt k1).h x u y ny⟩
  have r2 : Rel G (fun x => O x ∨ x = a) σ H1 ⟨E.ρ, n⟩ := by
    refine ⟨r1.len, fun j d e => ?_, fun j es e => ?_, r1.dif, r1.con, i1, fun x y => .inl (r1.bo x y), fun x y => y.elim (r1.on x) fun y => y ▸ r.free e3, r1.aB.or e4 rfl, r1.kp, r.od.mv (fun _ _ z => Dv.later L1 z) fun _ _ b o _ _ e ob sb nl => ⟨(k1 _ _ e (fun y => G.hb b (G.sb b y) sb)).eq nl.2, .inl ob⟩⟩
    · obtain ⟨v, y1, y2⟩ := r.dat j d e
      exact ⟨v, y1, Dv.later L1 y2⟩
    · obtain ⟨b, ws, y1, y2, y3, y4, y5⟩ := r.own j es e
      exact ⟨b, ws, y1, k1 _ _ y2 (fun y => G.hb b (G.sb b y) y4), .inl y3, y4, y5.later L1⟩
  refine k.nx _ _ H1 _ L1 (r2.setOwn e4 hs0 (.inr rfl) e5 fun j dj nj ej y => ?_) q1
  obtain ⟨b, ws, y1, y2, y3, _⟩ := r.own j dj ej
  rw [y] at y1
  cases y1
  exact nO y3
theorem z_own {i : Nat} {x : Str} {e : Expr} {t : TD} {pos pos' : Pos} (hN : X.N.Nodup) (hi : X.N[i]? = some x) (hx : Loc X.env.scope x) (he : PL X G e t) (hs : swapsWith e (some (.Name x pos')) pos.line X.env = pure false := by rfl) (hf : X.fn x = true ∨ X.env.scope.names.lookup x = some .local := by first | exact .inl rfl | exact .inr rfl | assumption) :
    PZ X G (.Assign [.Name x pos'] e pos) (zOwn i t) := PS.wk (ps_set hN hi hx he hs hf) (own_core fun _ _ _ z => z)
theorem z_move {i j : Nat} {x y : Str} {pos pos' p2 : Pos} (hN : X.N.Nodup) (hi : X.N[i]? = some x) (hx : Loc X.env.scope x) (h : PE X (.Name y p2) (tVar j)) (hij : i ≠ j) (hs : swapsWith (.Name y p2) (some (.Name x pos')) pos.line X.env = pure false := by rfl) (hf : X.fn x = true ∨ X.env.scope.names.lookup x = some .local := by first | exact .inl rfl | exact .inr rfl | assumption) :
    PZ X G (.Assign [.Name x pos'] (.Name y p2) pos) (zMove i j) := PS.wk (ps_set hN hi hx h hs hf) fun D σ H ⟨O, E, Dd, r, k, z⟩ => by
  unfold zMove at z
  split at z
  · rename_i ds e
    obtain ⟨a, vs, y1, y2, y3, y4, y5⟩ := r.own j ds e
    refine ⟨_, y1, k.nx O _ H _ (Later.refl O H) ?_ z⟩
    have hjl : j < σ.length := by
      rw [r.len]
      exact (List.getElem?_eq_some_iff.mp e).1
    have r1 := (r.drop (i := j) (o := some (V.ref a)))
    have e2 : σ.set j (some (V.ref a)) = σ := by
      refine List.ext_getElem? fun m => ?_
      rw [List.getElem?_set]
      split
      · rename_i q
        subst q
        first | exact y1.symm | (rw [if_pos hjl]; exact y1.symm)
      · rfl
    rw [e2] at r1
    refine r1.setOwn y2 y4 y3 y5 fun m dm nm em q => ?_
    rw [List.getElem?_set] at em
    by_cases qm : j = m
    · rw [if_pos qm] at em
      split at em <;> cases em
    · rw [if_neg qm] at em
      exact qm (r.dif j m ds dm a e em y1 q)
  · rename_i d e
    obtain ⟨v, y1, y2⟩ := r.dat j d e
    exact ⟨v, y1, k.nx O _ H _ (Later.refl O H) (r.set y2) z⟩
  · exact z.elim
theorem z_ret {e : Expr} {t : TD} {pos : Pos} (he : PB X G e t) : PZ X G (.Return (some e) pos) (zRet t) := PS.wk (ps_ret he) fun D σ H ⟨O, E, Dd, r, k, z⟩ => by
  refine ⟨O, E, _, r, ?_, z⟩
  rintro d n v H1 k1 i1 rv q1
  have r1 := r.step k1 i1
  refine k.rt v H1 d n r1.kp i1 ?_ q1
  rcases rv with h | ⟨a, vs, ds, e1, e2, e3, e4, e5⟩
  · exact Dv.less' r.bo h
  · subst e1 e2
    exact Dv.mkL e3 e5 (e4.mp fun _ _ z => Dv.less' r.bo z)
theorem z_retN {pos : Pos} : PZ X G (.Return none pos) (fun D E => D.rt .none E.n) := PS.wk ps_retN fun D σ H ⟨O, E, Dd, r, k, z⟩ => k.rt .non H .none E.n r.kp r.str .non z
theorem z_if {c : Expr} {a b : List Stmt} {tt : TDt} {t u : TSd} {pos : Pos} (hc : PQ X G c tt) (ha : PZs X G a t) (hb : PZs X G b u) : PZ X G (.If c a b pos) (zIf tt t u) := PS.wk (ps_if hc ha hb) fun D σ H ⟨O, E, Dd, r, k, z⟩ => by
  refine ⟨O, E, _, r, ?_, z⟩
  rintro b n H1 k1 i1 q1
  have r1 := r.step k1 i1
  cases b with
  | true =>
    refine iteT ?_
    rw [if_pos rfl] at q1
    exact ⟨O, _, Dd, r1, k.later (r.lt k1), q1⟩
  | false =>
    refine iteF ?_
    rw [if_neg (by decide)] at q1
    exact ⟨O, _, Dd, r1, k.later (r.lt k1), q1⟩
theorem z_break {pos : Pos} : PZ X G (.Break pos) (fun D E => D.bk E) := PS.wk ps_break fun D σ H ⟨O, E, Dd, r, k, z⟩ => k.bk O σ H E (Later.refl O H) r z
theorem z_cont {pos : Pos} : PZ X G (.Continue pos) (fun D E => D.ct E) := PS.wk ps_continue fun D σ H ⟨O, E, Dd, r, k, z⟩ => k.ct O σ H E (Later.refl O H) r z
/-- x += e of whole numbers -/
def zAug (i : Nat) (g : PyData → PyData → Option PyData) (t : TD) : TSd := fun D E => match E.ρ[i]? with | some (.dat x) => t E fun y n => opt (g x y) fun z => D.nx ⟨E.ρ.set i (.dat z), n⟩ | _ => False
theorem z_aug {i : Nat} {x : Str} {e : Expr} {t : TD} {op : Operator} {f : Int → Int → Int} {pos pos' : Pos} (hN : X.N.Nodup) (hi : X.N[i]? = some x) (hx : Loc X.env.scope x) (he : PD X G e t) (ho : PIp X op (ipI f)) (hf : X.fn x = true ∨ X.env.scope.names.lookup x = some .local := by first | exact .inl rfl | exact .inr rfl | assumption) :
    PZ X G (.AugAssign (.Name x pos') op e pos) (zAug i (gI fun a b => .int (f a b)) t) := PS.wk (ps_aug hN hi hx he ho hf) fun D σ H ⟨O, E, Dd, r, k, z⟩ => by
  unfold zAug at z
  split at z
  · rename_i dx ex
    obtain ⟨v, y1, y2⟩ := r.dat i dx ex
    refine ⟨v, y1, O, E, _, r, ?_, z⟩
    rintro d n w H1 k1 i1 rv q1
    obtain ⟨u, e1, q⟩ := opt_el q1
    obtain ⟨a, b, rfl, rfl, rfl⟩ := gI_el e1
    cases y2
    cases rv
    exact ⟨a, b, rfl, rfl, k.nx O _ H1 _ (r.lt k1) ((r.step k1 i1).set (.int _)) q⟩
  · exact z.elim
/-- xs.append(e), xs a list of one's own -/
def zApp (i : Nat) (t : TD) : TSd := fun D E => match E.ρ[i]? with | some (.own ds) => t E fun d n => ds.length < 100000 ∧ D.nx ⟨E.ρ.set i (.own (ds ++ [d])), n⟩ | _ => False
theorem z_app {i : Nat} {x : Str} {e : Expr} {t : TD} {pos p apos cpos : Pos} (h : PE X (.Name x p) (tVar i)) (he : PD X G e t) (hbase : attributeBase (.Name x p) "append" X.env (eval (.Name x p) X.env) = eval (.Name x p) X.env := by rfl)
    (hfew : ((backTo cpos (starEach [e] X.env)).all (fun x => !x.1) && (backToKw cpos (keywordEach [] X.env)).all (fun x => x.1.isSome) && decide (([e] : List Expr).length + ([] : List Keyword).length + (if ([] : List Keyword).isEmpty then 0 else 1) < 30)) = true := by rfl)
    (hline : (apos.endLine == cpos.line) = true := by rfl) (hst : starEach [e] X.env = (false, eval e X.env) :: starEach [] X.env := by rfl) (hs : swapsWith (.Call (.Attribute (.Name x p) "append" apos) [e] [] cpos) none pos.line X.env = pure false := by rfl) :
    PZ X G (.Expr (.Call (.Attribute (.Name x p) "append" apos) [e] [] cpos) pos) (zApp i t) :=
  PS.wk (ps_expr (pe_bm PySem.F.plainAttrs_list PySem.F.slot_list_append PySem.F.type_list_append mt_append h (pa_cons he pa_nil hst) hbase hfew hline hst) hs) fun D σ H ⟨O, E, Dd, r, k, z⟩ => by
    unfold zApp at z
    split at z
    · rename_i ds eo
      obtain ⟨a, vs, y1, y2, y3, y4, y5⟩ := r.own i ds eo
      refine ⟨_, y1, .inl ⟨rfl, _, sq_of y2⟩, O, E, _, r, ?_, z⟩
      rintro d n v H1 k1 i1 rv ⟨q0, q1⟩
      have r1 := r.step k1 i1
      obtain ⟨a', vs', w1, w2, w3, w4, w5⟩ := r1.own i ds eo
      rw [y1] at w1
      cases w1
      refine ⟨a, vs', v, rfl, rfl, w2, sz_lt (by rw [w5.length]; exact q0), ?_⟩
      obtain ⟨r2, L2⟩ := r1.mut eo y1 y3 y4 (w5.app (.cons rv .nil))
      exact k.nx O _ _ _ ((r.lt k1).trans L2) r2 q1
    · exact z.elim
/-- xs[j] = e -/
def zSetIx (i : Nat) (tj t : TD) : TSd := fun D E => t E fun d n => match E.ρ[i]? with
  | some (.own ds) => tj ⟨E.ρ, n⟩ fun j m => (match j with | .int k => opt (ixN ds.length k) fun p => D.nx ⟨E.ρ.set i (.own (ds.set p d)), m⟩ | _ => False)
  | _ => False
theorem z_setix {i : Nat} {x : Str} {e j : Expr} {t tj : TD} {pos p spos : Pos} (h : PE X (.Name x p) (tVar i)) (hj : PD X G j tj) (he : PD X G e t)
    (ha : ∀ v, assign (.Subscript (.Name x p) j spos) X.env v = (do
      let ov ← holding [v] (eval (.Name x p) X.env)
      let iv ← holding [v, ov] (eval j X.env)
      standAt spos
      holding [v, ov, iv] (setItem ov iv v)
      release [v, ov, iv] []) := by intro _; rfl)
    (hs : swapsWithSole [.Subscript (.Name x p) j spos] e pos.line X.env = pure false := by rfl) (hw : swappedStores [.Subscript (.Name x p) j spos] e X.env = pure none := by rfl)
    (h1 : (assignEach [.Subscript (.Name x p) j spos] X.env).map (·.2) = [assign (.Subscript (.Name x p) j spos) X.env] := by rfl) : PZ X G (.Assign [.Subscript (.Name x p) j spos] e pos) (zSetIx i tj t) :=
  PS.wk (ps_asg he (pg_sub h hj set_list ha) hs hw h1) fun D σ H ⟨O, E, Dd, r, k, z⟩ => by
    refine ⟨O, E, _, r, ?_, z⟩
    rintro d n v H1 k1 i1 rv q1
    have r1 := r.step k1 i1
    split at q1
    · rename_i ds eo
      obtain ⟨a, vs, y1, y2, y3, y4, y5⟩ := r1.own i ds eo
      refine ⟨_, y1, O, _, _, r1, ?_, q1⟩
      rintro dj m w H2 k2 i2 rw' q2
      have r2 := r1.step k2 i2
      split at q2
      · rename_i kk
        obtain ⟨pp, e1, q3⟩ := opt_el q2
        obtain ⟨a', vs', w1, w2, w3, w4, w5⟩ := r2.own i ds eo
        rw [y1] at w1
        cases w1
        cases rw'
        refine ⟨a, vs', kk, pp, rfl, rfl, w2, by rw [w5.length]; exact e1, ?_⟩
        obtain ⟨r3, L3⟩ := r2.mut eo y1 y3 y4 (w5.setL (Dv.later (r1.lt k2) rv) pp)
        exact k.nx O _ _ _ (((r.lt k1).trans (r1.lt k2)).trans L3) r3 q3
      · exact q2.elim
    · exact q1.elim
/-! ### targets: a name, or a tuple of names -/
inductive Tg
  | nm (i : Nat)
  | tp (js : List Nat)
  | np (i : Nat) (js : List Nat)
def setsS : L2.St → List Nat → List V → L2.St
  | σ, i :: js, v :: vs => setsS (σ.set i (some v)) js vs
  | σ, _, _ => σ
def setsD : List Sl → List Nat → List PyData → List Sl
  | ρ, i :: js, d :: ds => setsD (ρ.set i (.dat d)) js ds
  | ρ, _, _ => ρ
def Tg.put : Tg → PyData → List Sl → Option (List Sl)
  | .nm i, d, ρ => some (ρ.set i (.dat d))
  | .tp js, .tuple ds, ρ => if ds.length = js.length then some (setsD ρ js ds) else none
  | .tp _, _, _ => none
  | .np i js, .tuple [d0, .tuple ds], ρ => if ds.length = js.length then some (setsD (ρ.set i (.dat d0)) js ds) else none
  | .np _ _, _, _ => none
def gcs : List Nat → TGs
  | [] => gNil
  | i :: js => gCons (gName i) (gcs js)
def Tg.g (K : PySem.W.Frag) : Tg → TG
  | .nm i => gName i
  | .tp js => gTup K js.length (gcs js)
  | .np i js => gTup K 2 (gCons (gName i) (gCons (gTup K js.length (gcs js)) gNil))
theorem gcs_ok {H : Hp} {Q : L2.St → Hp → Prop} : ∀ (js : List Nat) (vs : List V) (σ : L2.St), vs.length = js.length → Q (setsS σ js vs) H → gcs js vs σ H Q
  | [], [], σ, _, q => ⟨rfl, q⟩
  | [], _ :: _, _, l, _ => by cases l
  | _ :: _, [], _, l, _ => by cases l
  | i :: js, v :: vs, σ, l, q => ⟨v, vs, rfl, gcs_ok js vs _ (Nat.succ.inj l) q⟩
theorem rel_sets {O : Addr → Prop} {H : Hp} : ∀ (js : List Nat) (vs : List V) (ds : List PyData) (σ : L2.St) (E : En), Rel G O σ H E → DvL O H vs ds → Rel G O (setsS σ js vs) H ⟨setsD E.ρ js ds, E.n⟩
  | [], _, _, σ, E, r, _ => by simpa [setsS, setsD] using r
  | i :: js, _, _, σ, E, r, .nil => by simpa [setsS, setsD] using r
  | i :: js, _, _, σ, E, r, .cons h t => rel_sets js _ _ _ ⟨E.ρ.set i _, E.n⟩ (r.set h) t
theorem put_np {i : Nat} {js : List Nat} {d : PyData} {ρ0 ρ : List Sl} (h : (Tg.np i js).put d ρ0 = some ρ) : ∃ d0 ds, d = .tuple [d0, .tuple ds] ∧ ds.length = js.length ∧ ρ = setsD (ρ0.set i (.dat d0)) js ds := by
  match d, h with
  | .tuple [d0, .tuple ds], h =>
    dsimp only [Tg.put] at h
    split at h
    · cases h
      exact ⟨d0, ds, rfl, by assumption, rfl⟩
    · cases h
theorem Tg.ok {K : PySem.W.Frag} {O : Addr → Prop} {H : Hp} {σ : L2.St} {E : En} {v : V} {d : PyData} {ρ : List Sl} {Q : L2.St → Hp → Prop} (tg : Tg) (r : Rel G O σ H E) (h : Dv O H v d) (e : tg.put d E.ρ = some ρ)
    (q : ∀ σ', Rel G O σ' H ⟨ρ, E.n⟩ → (∀ vs, (match tg with | .nm i => i ∈ vs | .tp js => ∀ j ∈ js, j ∈ vs | .np i js => i ∈ vs ∧ ∀ j ∈ js, j ∈ vs) → wipe σ' vs = wipe σ vs) → Q σ' H) : tg.g K v σ H Q := by
  have w1 : ∀ (vs : List Nat) (i : Nat) (x : Option V) (σ : L2.St), i ∈ vs → wipe (σ.set i x) vs = wipe σ vs := by
    intro vs i x
    have cm : ∀ (vs : List Nat) (σ : L2.St), wipe (σ.set i x) vs = (wipe σ vs).set i x ∨ wipe (σ.set i x) vs = wipe σ vs := by
      intro vs
      induction vs with
      | nil => intro σ; exact .inl rfl
      | cons w vs ih =>
        intro σ
        by_cases q : w = i
        · subst q
          refine .inr ?_
          show (wipe (σ.set w x) vs).set w none = (wipe σ vs).set w none
          rcases ih σ with z | z
          · rw [z, List.set_set]
          · rw [z]
        · rcases ih σ with z | z
          · refine .inl ?_
            show (wipe (σ.set i x) vs).set w none = ((wipe σ vs).set w none).set i x
            rw [z, List.set_comm _ _ (fun y => q y.symm)]
          · refine .inr ?_
            show (wipe (σ.set i x) vs).set w none = (wipe σ vs).set w none
            rw [z]
    induction vs with
    | nil => intro σ h; cases h
    | cons w vs ih =>
      intro σ h
      show (wipe (σ.set i x) vs).set w none = (wipe σ vs).set w none
      by_cases q : w = i
      · subst q
        rcases cm vs σ with z | z
        · rw [z, List.set_set]
        · rw [z]
      · rw [ih σ ((List.mem_cons.mp h).resolve_left fun y => q y.symm)]
  have w2 : ∀ (vs : List Nat) (js : List Nat) (us : List V) (σ : L2.St), (∀ j ∈ js, j ∈ vs) → wipe (setsS σ js us) vs = wipe σ vs := by
    intro vs js
    induction js with
    | nil => intro us σ _; rfl
    | cons i js ih =>
      intro us σ h
      cases us with
      | nil => rfl
      | cons u us =>
        show wipe (setsS (σ.set i (some u)) js us) vs = _
        rw [ih us _ fun j hj => h j (List.mem_cons_of_mem _ hj), w1 vs i _ σ (h i List.mem_cons_self)]
  cases tg with
  | nm i =>
    cases e
    exact q _ (r.set h) fun vs hv => w1 vs i _ σ hv
  | tp js =>
    cases d with
    | tuple ds =>
      dsimp only [Tg.put] at e
      split at e
      · cases e
        obtain ⟨a, vs, rfl, h1, _, h3⟩ := Dv.unT h
        rename_i hl
        have l := h3.length
        exact ⟨a, vs, rfl, st_of h1, by omega, gcs_ok js vs σ (by omega) (q _ (rel_sets js vs ds σ E r h3) fun us hu => w2 us js vs σ hu)⟩
      · cases e
    | _ => cases e
  | np i js =>
    obtain ⟨d0, ds, rfl, hl, rfl⟩ := put_np e
    obtain ⟨a, vs, rfl, h1, _, h3⟩ := Dv.unT h
    cases h3 with
    | cons v0 t0 =>
      cases t0 with
      | cons v1 t1 =>
        cases t1
        obtain ⟨a2, us, rfl, h4, _, h6⟩ := Dv.unT v1
        have l := h6.length
        refine ⟨a, _, rfl, st_of h1, rfl, _, _, rfl, _, _, rfl, a2, us, rfl, st_of h4, by omega, gcs_ok js us _ (by omega) ⟨rfl, q _ (rel_sets js us _ _ ⟨E.ρ.set i _, E.n⟩ (r.set v0) h6) fun ws hu => ?_⟩⟩
        rw [w2 ws js us _ hu.2, w1 ws i _ σ hu.1]
def zAsg (tg : Tg) (t : TD) : TSd := fun D E => t E fun d n => opt (tg.put d E.ρ) fun ρ => D.nx ⟨ρ, n⟩
theorem z_asg {e target : Expr} {t : TD} {tg : Tg} {pos : Pos} (he : PD X G e t) (hg : PG X target (tg.g X.K)) (hs : swapsWithSole [target] e pos.line X.env = pure false := by rfl) (hw : swappedStores [target] e X.env = pure none := by rfl)
    (h1 : (assignEach [target] X.env).map (·.2) = [assign target X.env] := by rfl) : PZ X G (.Assign [target] e pos) (zAsg tg t) := PS.wk (ps_asg he hg hs hw h1) fun D σ H ⟨O, E, Dd, r, k, z⟩ => by
  refine ⟨O, E, _, r, ?_, z⟩
  rintro d n v H1 k1 i1 rv q1
  obtain ⟨ρ, e1, q⟩ := opt_el q1
  exact Tg.ok tg (r.step k1 i1) rv e1 fun σ' r' _ => k.nx O _ H1 _ (r.lt k1) r' q
/-! ### what is walked -/
/-- from H' on, while only what O' avoids changes, J yields ds -/
def Wk (O' : Addr → Prop) (H' : Hp) (J : It) (ds : List PyData) : Prop := ∀ O2 H2, Later O' H' O2 H2 → (∀ x, O2 x → H2 x ≠ none) → ∀ i : Nat, (∀ d, ds[i]? = some d → J.go i H2 ∧ ∀ x H3, J.yld i H2 x H3 → Same H2 H3 ∧ Dv O2 H3 x d) ∧ (ds.length = i → J.stop i H2)
abbrev TId := En → (List PyData → Nat → Prop) → Prop
def lowI (G : Gx) (it : TId) : TI := fun σ H R => ∃ (O : Addr → Prop) (E : En) (Qd : List PyData → Nat → Prop), Rel G O σ H E ∧ (∀ ds n J H', Kp G.F.S H H' → G.F.I n H' → Wk O H' J ds → Qd ds n → R J H') ∧ it E Qd
abbrev PJ (X : Cx) (G : Gx) (tg iter : Expr) (it : TId) : Prop := PI X tg iter (lowI G it)
theorem PI.wk {tg iter : Expr} {t u : TI} (h : PI X tg iter t) (k : ∀ σ H R, u σ H R → t σ H R) : PI X tg iter u := ⟨fun p s σ H R I z => h.run p s σ H R I (k σ H R z)⟩
def rangeD (lo : Int) (n : Nat) : List PyData := (List.range n).map fun i => .int (lo + (i : Nat))
theorem wk_range {O : Addr → Prop} {H : Hp} (lo : Int) (n : Nat) : Wk O H (Itr lo n) (rangeD lo n) := by
  intro O2 H2 _ _ i
  refine ⟨fun d e => ?_, fun h => ?_⟩
  · unfold rangeD at e
    rw [List.getElem?_map, Option.map_eq_some_iff] at e
    obtain ⟨j, e1, rfl⟩ := e
    have hj : i < n := by
      have := (List.getElem?_eq_some_iff.mp e1).1
      simpa using this
    have : j = i := by
      rw [List.getElem?_range hj] at e1
      exact (Option.some.inj e1).symm
    subst this
    refine ⟨hj, ?_⟩
    rintro x H3 ⟨rfl, rfl⟩
    exact ⟨fun _ _ e => e, .int _⟩
  · unfold rangeD at h
    have : n = i := by simpa using h
    exact Nat.le_of_eq this
def iRg1 (t : TD) : TId := fun E Q => t E fun d n => match d with | .int j => decide (-(2 ^ 62) ≤ j ∧ j < 2 ^ 62) = true ∧ Q (rangeD 0 j.toNat) n | _ => False
theorem j_range1 {tg a : Expr} {t : TD} {p pos : Pos} (ha : PD X G a t) (hm : X.mg "range" = none) (hg : Gl X "range" := by rfl) (hs : starEach [a] X.env = [(false, eval a X.env)] := by rfl) (hs' : starEach [a] X.env = (false, eval a X.env) :: starEach [] X.env := by rfl) : PJ X G tg (.Call (.Name "range" p) [a] [] pos) (iRg1 t) :=
  PI.wk (pi_range1 hg hm (pa_cons ha pa_nil hs') hs) fun σ H R ⟨O, E, Qd, r, im, z⟩ => by
    refine ⟨O, E, _, r, ?_, z⟩
    rintro d n v H1 k1 i1 rv q1
    cases rv with
    | int j =>
      obtain ⟨h, q⟩ := q1
      have h' := of_decide_eq_true h
      exact ⟨j, rfl, h'.1, h'.2, im _ n _ H1 k1 i1 (wk_range 0 _) q⟩
    | _ => exact q1.elim
def iRg2 (t u : TD) : TId := fun E Q => t E fun d n => u ⟨E.ρ, n⟩ fun e m => match d, e with | .int i, .int j => decide (-(2 ^ 62) ≤ i ∧ i < 2 ^ 62 ∧ -(2 ^ 62) ≤ j ∧ j < 2 ^ 62) = true ∧ Q (rangeD i (j - i).toNat) m | _, _ => False
theorem j_range2 {tg a b : Expr} {t u : TD} {p pos : Pos} (ha : PD X G a t) (hb : PD X G b u) (hm : X.mg "range" = none) (hg : Gl X "range" := by rfl) (hs : starEach [a, b] X.env = [(false, eval a X.env), (false, eval b X.env)] := by rfl) (hs2 : starEach [b] X.env = [(false, eval b X.env)] := by rfl)
    (hs' : starEach [a, b] X.env = (false, eval a X.env) :: starEach [b] X.env := by rfl) (hs3 : starEach [b] X.env = (false, eval b X.env) :: starEach [] X.env := by rfl) : PJ X G tg (.Call (.Name "range" p) [a, b] [] pos) (iRg2 t u) :=
  PI.wk (pi_range2 hg hm (pa_cons ha (pa_cons hb pa_nil hs3) hs') hs hs2) fun σ H R ⟨O, E, Qd, r, im, z⟩ => by
    refine ⟨O, E, _, r, ?_, z⟩
    rintro d n v H1 k1 i1 rv q1
    have r1 := r.step k1 i1
    refine ⟨O, _, _, r1, ?_, q1⟩
    rintro d2 m v2 H2 k2 i2 rv2 q2
    split at q2
    · cases rv
      cases rv2
      obtain ⟨h, q⟩ := q2
      exact ⟨_, _, rfl, of_decide_eq_true h, im _ m _ H2 (k1.trans k2) i2 (wk_range _ _) q⟩
    · exact q2.elim
/-- a list or a tuple -/
theorem pi_seq {tg l : Expr} {tl : TE} (hl : PE X l tl) : PI X tg l (fun σ H R => tl σ H fun x H1 => ∃ a, x = .ref a ∧ (((∃ xs, SqL X.K H1 a xs) ∧ R (Itl X.K a) H1) ∨ ((∃ xs, SqT X.K H1 a xs) ∧ R (Itt X.K a) H1))) := by
  refine ⟨fun pins s σ H R I h => ?_⟩
  refine thn (hl.run pins s σ H _ I h) fun v s1 ⟨x, H1, I1, r1, q1⟩ => ?_
  obtain ⟨a, e, q⟩ := q1
  subst e
  rcases q with ⟨⟨xs, hq⟩, q⟩ | ⟨⟨xs, hq⟩, q⟩
  · have h0 : PE X l (fun σ' H' Q => σ' = σ ∧ H' = H1 ∧ Q (.ref a) H1) → True := fun _ => trivial
    cases r1
    obtain ⟨its, rv, p, hz⟩ := I1.list hq
    refine wpAny_pyIter_list p.isList ?_
    refine ⟨s1.heap.objs.size, [s1.heap.objs.size], _, _, H1, rfl, I1.kept (t' := s1.toks) fun b o e => Heap.get?_push_of_some _ e, turn_list a _, ⟨_, Heap.get?_push_size _ rfl, rfl, rfl⟩, fun b hb => ?_, q⟩
    have e : b = s1.heap.objs.size := by simpa using hb
    subst e
    exact I1.fpOk (Nat.le_refl _) (I1.hok.fresh (Nat.le_refl _))
  · cases r1
    obtain ⟨its, rv, p, hz⟩ := I1.tuple hq
    refine wpAny_pyIter_tuple (show s1.heap.IsTuple a its.toArray from p) ?_
    refine ⟨s1.heap.objs.size, [s1.heap.objs.size], _, _, H1, rfl, I1.kept (t' := s1.toks) fun b o e => Heap.get?_push_of_some _ e, turn_tuple a _, ⟨_, Heap.get?_push_size _ rfl, rfl, rfl⟩, fun b hb => ?_, q⟩
    have e : b = s1.heap.objs.size := by simpa using hb
    subst e
    exact I1.fpOk (Nat.le_refl _) (I1.hok.fresh (Nat.le_refl _))
theorem wk_list {K : PySem.W.Frag} {O : Addr → Prop} {H : Hp} {a : Addr} {vs : List V} {ds : List PyData} (h : H a = some (.lst vs)) (n : ¬ O a) (d : DvL O H vs ds) : Wk O H (Itl K a) ds := by
  intro O2 H2 L al i
  have e := L.h a _ h n
  have d2 := d.later L
  refine ⟨fun x ex => ?_, fun hl => ⟨vs, sq_of e, by rw [d.length]; exact Nat.le_of_eq hl⟩⟩
  obtain ⟨v, e1, e2⟩ := d2.get ex
  refine ⟨⟨vs, v, sq_of e, e1⟩, ?_⟩
  rintro y H3 ⟨rfl, hy⟩
  have := hy vs (sq_of e)
  rw [e1] at this
  cases this
  exact ⟨fun _ _ e => e, e2⟩
theorem wk_tup {K : PySem.W.Frag} {O : Addr → Prop} {H : Hp} {a : Addr} {vs : List V} {ds : List PyData} (h : H a = some (.tup vs)) (n : ¬ O a) (d : DvL O H vs ds) : Wk O H (Itt K a) ds := by
  intro O2 H2 L al i
  have e := L.h a _ h n
  have d2 := d.later L
  refine ⟨fun x ex => ?_, fun hl => ⟨vs, st_of e, by rw [d.length]; exact Nat.le_of_eq hl⟩⟩
  obtain ⟨v, e1, e2⟩ := d2.get ex
  refine ⟨⟨vs, v, st_of e, e1⟩, ?_⟩
  rintro y H3 ⟨rfl, hy⟩
  have := hy vs (st_of e)
  rw [e1] at this
  cases this
  exact ⟨fun _ _ e => e, e2⟩
def items : PyData → Option (List PyData)
  | .list ds => some ds
  | .tuple ds => some ds
  | _ => none
def iSeq (t : TD) : TId := fun E Q => t E fun d n => opt (items d) fun ds => Q ds n
theorem j_seq {tg l : Expr} {t : TD} (hl : PD X G l t) : PJ X G tg l (iSeq t) := PI.wk (pi_seq hl) fun σ H R ⟨O, E, Qd, r, im, z⟩ => by
  refine ⟨O, E, _, r, ?_, z⟩
  rintro d n v H1 k1 i1 rv q1
  obtain ⟨ds, e, q⟩ := opt_el q1
  have r1 := r.step k1 i1
  unfold items at e
  split at e
  · cases e
    obtain ⟨a, vs, rfl, h1, h2, h3⟩ := Dv.unL rv
    exact ⟨a, rfl, .inl ⟨⟨_, sq_of h1⟩, im _ n _ H1 k1 i1 (wk_list h1 h2 h3) q⟩⟩
  · cases e
    obtain ⟨a, vs, rfl, h1, h2, h3⟩ := Dv.unT rv
    exact ⟨a, rfl, .inr ⟨⟨_, st_of h1⟩, im _ n _ H1 k1 i1 (wk_tup h1 h2 h3) q⟩⟩
  · cases e
/-- a list of one's own is given up ahead of a statement: from there on it is data -/
def zFrz (i : Nat) (t : TSd) : TSd := fun D E => match E.ρ[i]? with | some (.own ds) => t D ⟨E.ρ.set i (.dat (.list ds)), E.n⟩ | _ => t D E
theorem z_frz (i : Nat) {st : Stmt} {t : TSd} (h : PZ X G st t) : PZ X G st (zFrz i t) := PS.wk h fun D σ H ⟨O, E, Dd, r, k, z⟩ => by
  unfold zFrz at z
  split at z
  · rename_i ds e
    obtain ⟨a, vs, O', _, _, _, _, y5, y6, _⟩ := r.freeze e
    exact ⟨O', _, Dd, y5, k.later y6, z⟩
  · exact ⟨O, E, Dd, r, k, z⟩
/-! ### loops -/
def dForL0 (tg : Tg) (tb : TSd) (D : DEnds) : List PyData → En → Prop
  | [], E => D.nx E
  | d :: ds, E => opt (tg.put d E.ρ) fun ρ => tb { D with nx := dForL0 tg tb D ds, ct := dForL0 tg tb D ds, bk := D.nx } ⟨ρ, E.n⟩
structure dForL (tg : Tg) (tb : TSd) (D : DEnds) (ds : List PyData) (E : En) : Prop where
  h : dForL0 tg tb D ds E
def zFor (it : TId) (tg : Tg) (tb : TSd) : TSd := fun D E => it E fun ds n => dForL tg tb D ds ⟨E.ρ, n⟩
theorem z_for {target iter : Expr} {body : List Stmt} {it : TId} {tg : Tg} {tb : TSd} {pos : Pos} (hp : PassesOwn (model X.prog X.w) X.A X.env X.xe) (hc : X.calm = true) (hi : PJ X G target iter it) (hg : PG X target (tg.g X.K)) (hb : PZs X G body tb) (hs : ∀ x, foldedSetIterable iter X.env x = pure x := by intro _; rfl) :
    PZ X G (.For target iter body [] pos) (zFor it tg tb) := PS.wk (ps_for hp hc hi hg hb hs) fun D σ H ⟨O, E, Dd, r, k, z⟩ => by
  refine ⟨O, E, _, r, ?_, z⟩
  rintro ds n J H1 k1 i1 wk q1
  replace q1 := q1.h
  have r1 := r.step k1 i1
  have L1 := r.lt k1
  refine ⟨fun i m σ2 H2 => m = ds.length - i ∧ i ≤ ds.length ∧ ∃ O2 E2, Later O H1 O2 H2 ∧ Rel G O2 σ2 H2 E2 ∧ dForL0 tg tb Dd (ds.drop i) E2, ⟨ds.length, rfl, Nat.zero_le _, O, _, Later.refl _ _, r1, by simpa using q1⟩, ?_⟩
  rintro i m σ2 H2 ⟨rfl, hle, O2, E2, L2, r2, q2⟩
  by_cases hl : i < ds.length
  · obtain ⟨g1, g2⟩ := (wk O2 H2 L2 r2.al i).1 ds[i] (List.getElem?_eq_getElem hl)
    rw [List.drop_eq_getElem_cons hl] at q2
    obtain ⟨ρ, e, q3⟩ := opt_el q2
    refine .inr ⟨g1, fun σ' H' => ∃ O3 E3, Later O H1 O3 H' ∧ Rel G O3 σ' H' E3 ∧ dForL0 tg tb Dd (ds.drop (i + 1)) E3, fun σ' H' q => ⟨ds.length - (i + 1), by omega, rfl, by omega, q⟩, fun x H3 y => ?_⟩
    obtain ⟨s3, dx⟩ := g2 x H3 y
    obtain ⟨k3, i3⟩ := r2.fin s3
    have r3 := r2.step k3 i3
    have L3 := L2.trans (r2.lt k3)
    refine Tg.ok tg r3 dx e fun σ' r' _ => ⟨O2, _, { Dd with nx := dForL0 tg tb Dd (ds.drop (i + 1)), ct := dForL0 tg tb Dd (ds.drop (i + 1)), bk := Dd.nx }, r', ⟨fun O' σ' H' E' l rr q => ⟨O', E', L3.trans l, rr, q⟩, k.rt, fun O' σ' H' E' l rr q => k.nx O' σ' H' E' ((L1.trans L3).trans l) rr q, fun O' σ' H' E' l rr q => ⟨O', E', L3.trans l, rr, q⟩⟩, q3⟩
  · refine .inl ⟨(wk O2 H2 L2 r2.al i).2 (by omega), ?_⟩
    rw [List.drop_eq_nil_of_le (by omega)] at q2
    exact k.nx O2 σ2 H2 E2 (L1.trans L2) r2 q2
def zWhile (tt : TDt) (tb : TSd) : TSd := fun D E => ∃ W : Nat → En → Prop, (∃ m, W m E) ∧ ∀ m E, W m E → tt E fun b n => if b = true then tb { D with nx := fun E' => ∃ m', m' < m ∧ W m' E', ct := fun E' => ∃ m', m' < m ∧ W m' E', bk := D.nx } ⟨E.ρ, n⟩ else D.nx ⟨E.ρ, n⟩
theorem z_while {c : Expr} {body : List Stmt} {tt : TDt} {tb : TSd} {pos : Pos} (hp : PassesOwn (model X.prog X.w) X.A X.env X.xe) (hc : PQ X G c tt) (hb : PZs X G body tb) : PZ X G (.While c body [] pos) (zWhile tt tb) := PS.wk (ps_while hp hc hb) fun D σ H ⟨O, E, Dd, r, k, W, ⟨m0, w0⟩, z⟩ => by
  refine ⟨fun m σ2 H2 => ∃ O2 E2, Later O H O2 H2 ∧ Rel G O2 σ2 H2 E2 ∧ W m E2, ⟨m0, O, E, Later.refl _ _, r, w0⟩, ?_⟩
  rintro m σ2 H2 ⟨O2, E2, L2, r2, w2⟩
  refine ⟨O2, E2, _, r2, ?_, z m E2 w2⟩
  rintro b n H3 k3 i3 q3
  have r3 := r2.step k3 i3
  have L3 := L2.trans (r2.lt k3)
  cases b with
  | true =>
    refine iteT ⟨fun σ' H' => ∃ m', m' < m ∧ ∃ O3 E3, Later O H O3 H' ∧ Rel G O3 σ' H' E3 ∧ W m' E3, fun σ' H' q => q, ?_⟩
    rw [if_pos rfl] at q3
    exact ⟨O2, _, { Dd with nx := fun E' => ∃ m', m' < m ∧ W m' E', ct := fun E' => ∃ m', m' < m ∧ W m' E', bk := Dd.nx }, r3, ⟨fun O' σ' H' E' l rr ⟨m', hm, q⟩ => ⟨m', hm, O', E', L3.trans l, rr, q⟩, k.rt, fun O' σ' H' E' l rr q => k.nx O' σ' H' E' (L3.trans l) rr q, fun O' σ' H' E' l rr ⟨m', hm, q⟩ => ⟨m', hm, O', E', L3.trans l, rr, q⟩⟩, q3⟩
  | false =>
    refine iteF ?_
    rw [if_neg (by decide)] at q3
    exact k.nx O2 σ2 H3 _ L3 r3 q3
/-! ### comprehensions -/
def dLcL0 (tg : Tg) (tt : TDt) (te : TD) (ρ0 : List Sl) (Q : PyData → Nat → Prop) : List PyData → List PyData → Nat → Prop
  | [], acc, n => Q (.list acc) n
  | d :: ds, acc, n => opt (tg.put d ρ0) fun ρ => tt ⟨ρ, n⟩ fun b m => if b = true then te ⟨ρ, m⟩ fun y k => acc.length < 100000 ∧ dLcL0 tg tt te ρ0 Q ds (acc ++ [y]) k else dLcL0 tg tt te ρ0 Q ds acc m
structure dLcL (tg : Tg) (tt : TDt) (te : TD) (ρ0 : List Sl) (Q : PyData → Nat → Prop) (ds acc : List PyData) (n : Nat) : Prop where
  h : dLcL0 tg tt te ρ0 Q ds acc n
def wipeD (ρ : List Sl) : List Nat → List Sl
  | [] => ρ
  | v :: vs => (wipeD ρ vs).set v .no
theorem rel_wipe {O : Addr → Prop} {σ : L2.St} {H : Hp} {E : En} (r : Rel G O σ H E) : ∀ vs : List Nat, Rel G O (wipe σ vs) H ⟨wipeD E.ρ vs, E.n⟩
  | [] => r
  | v :: vs => (rel_wipe r vs).drop
def tgIn (tg : Tg) (vs : List Nat) : Prop := match tg with | .nm i => i ∈ vs | .tp js => ∀ j ∈ js, j ∈ vs | .np i js => i ∈ vs ∧ ∀ j ∈ js, j ∈ vs
def dLc (it : TId) (tg : Tg) (tt : TDt) (te : TD) (vs : List Nat) : TD := fun E Q => it E fun ds n => dLcL tg tt te (wipeD E.ρ vs) Q ds [] n
theorem lc_low {it : TId} {tg : Tg} {tt : TDt} {te : TD} {vs : List Nat} {K : PySem.W.Frag} (hv : tgIn tg vs) : ∀ σ H Q, low G RL (dLc it tg tt te vs) σ H Q → tLc (lowI G it) (tg.g K) (lowT G tt) (low G RD te) vs σ H Q := by
  rintro σ H Q ⟨O, E, Qd, r, im, z⟩
  refine ⟨O, E, _, r, ?_, z⟩
  rintro ds n0 J H1 k1 i1 wk q1 D hD
  replace q1 := q1.h
  have r1 := r.step k1 i1
  have nD : ¬ O D := fun y => r1.al D y hD
  have nS : ¬ G.F.S D := fun y => nD (r1.sO D y)
  have L0 : Later O H1 (fun x => O x ∨ x = D) (upd H1 D (.lst [])) := later_newO hD
  have r0 : Rel G (fun x => O x ∨ x = D) σ (upd H1 D (.lst [])) ⟨E.ρ, n0⟩ := by
    refine r1.more L0 (fun x y => .inl y) ((r1.aB.upd rfl).or upd_same rfl) (fun x u e _ => same_upd' hD x u e) (G.F.keep _ _ _ r1.str fun x o _ e => same_upd' hD x o e)
  refine ⟨fun i m H2 => m = ds.length - i ∧ i ≤ ds.length ∧ ∃ n ws acc, Later (fun x => O x ∨ x = D) (upd H1 D (.lst [])) (fun x => O x ∨ x = D) H2 ∧ Kp (fun x => G.F.S x ∨ x = D) (upd H1 D (.lst [])) H2 ∧ Rel G (fun x => O x ∨ x = D) σ H2 ⟨E.ρ, n⟩ ∧ H2 D = some (.lst ws) ∧ DvL (fun x => O x ∨ x = D) H2 ws acc ∧ dLcL0 tg tt te (wipeD E.ρ vs) Qd (ds.drop i) acc n,
    ⟨ds.length, rfl, Nat.zero_le _, n0, [], [], Later.refl _ _, Kp.refl _, r0, upd_same, .nil, by simpa using q1⟩, ?_⟩
  rintro i m H2 ⟨rfl, hle, n, ws, acc, M2, K2, r2, h2, d2, q2⟩
  by_cases hl : i < ds.length
  · obtain ⟨g1, g2⟩ := (wk _ H2 (L0.trans M2) r2.al i).1 ds[i] (List.getElem?_eq_getElem hl)
    rw [List.drop_eq_getElem_cons hl] at q2
    obtain ⟨ρ, e, q3⟩ := opt_el q2
    refine .inr ⟨g1, fun H' => ∃ n ws acc, Later (fun x => O x ∨ x = D) (upd H1 D (.lst [])) (fun x => O x ∨ x = D) H' ∧ Kp (fun x => G.F.S x ∨ x = D) (upd H1 D (.lst [])) H' ∧ Rel G (fun x => O x ∨ x = D) σ H' ⟨E.ρ, n⟩ ∧ H' D = some (.lst ws) ∧ DvL (fun x => O x ∨ x = D) H' ws acc ∧ dLcL0 tg tt te (wipeD E.ρ vs) Qd (ds.drop (i + 1)) acc n, fun H' q => ⟨ds.length - (i + 1), by omega, rfl, by omega, q⟩, fun x H3 y => ?_⟩
    obtain ⟨s3, dx⟩ := g2 x H3 y
    obtain ⟨k3, i3⟩ := r2.fin s3
    have r3 := r2.step k3 i3
    have rw3 := rel_wipe r3 vs
    refine Tg.ok tg rw3 dx e fun σ' r' hw => ?_
    refine ⟨?_, ?_⟩
    · have e1 := hw vs hv
      have e2 : ∀ (vs : List Nat) (σ : L2.St), wipe (wipe σ vs) vs = wipe σ vs := by
        intro vs σ
        have key : ∀ (us vs : List Nat), (∀ u ∈ us, u ∈ vs) → wipe (wipe σ vs) us = wipe σ vs := by
          intro us
          induction us with
          | nil => intro vs _; rfl
          | cons u us ih =>
            intro vs h
            show (wipe (wipe σ vs) us).set u none = _
            rw [ih vs fun w hw => h w (List.mem_cons_of_mem _ hw)]
            have hu := h u List.mem_cons_self
            have : ∀ (vs : List Nat), u ∈ vs → ∀ x, (wipe σ vs)[u]? = some x → x = none := by
              intro vs
              induction vs with
              | nil => intro h; cases h
              | cons w vs ih2 =>
                intro h x ex
                by_cases q : w = u
                · subst q
                  rw [show wipe σ (w :: vs) = (wipe σ vs).set w none from rfl, List.getElem?_set] at ex
                  rw [if_pos rfl] at ex
                  split at ex
                  · cases ex; rfl
                  · cases ex
                · rw [show wipe σ (w :: vs) = (wipe σ vs).set w none from rfl, List.getElem?_set_ne q] at ex
                  exact ih2 ((List.mem_cons.mp h).resolve_left fun y => q y.symm) x ex
            refine List.ext_getElem? fun j => ?_
            rw [List.getElem?_set]
            split
            · rename_i q
              subst q
              split
              · rename_i hlt
                have := this vs hu _ (List.getElem?_eq_getElem hlt)
                rw [List.getElem?_eq_getElem hlt, this]
              · rename_i hlt
                exact (List.getElem?_eq_none (by omega)).symm
            · rfl
        exact key vs vs fun _ h => h
      rw [e1, e2]
    · refine ⟨_, _, _, r', ?_, q3⟩
      rintro b m H4 k4 i4 q4
      have k34 := k3.trans k4
      have r4 := r2.step k34 i4
      have h4 := k34 _ _ h2 nS
      have KK : Kp (fun x => G.F.S x ∨ x = D) (upd H1 D (.lst [])) H4 := K2.trans fun b o e n => k34 b o e fun y => n (.inl y)
      have LL := M2.trans (r2.lt k34)
      cases b with
      | true =>
        refine iteT ?_
        rw [if_pos rfl] at q4
        have r4' := r'.step k4 i4
        refine ⟨_, _, _, r4', ?_, q4⟩
        rintro dy k v H5 k5 i5 rv ⟨q0, q5⟩
        have k345 := k34.trans k5
        have r5 := r2.step k345 i5
        have h5 := k345 _ _ h2 nS
        have d5 := d2.later (r2.lt k345)
        refine ⟨ws, h5, sz_lt (by rw [d2.length]; exact q0), ?_⟩
        have L6 : Later (fun x => O x ∨ x = D) H5 (fun x => O x ∨ x = D) (upd H5 D (.lst (ws ++ [v]))) := ⟨fun _ z => .inl z, fun x u e n => by rw [upd_ne (show x ≠ D from fun z => n (.inr z))]; exact Stay.of e⟩
        refine ⟨k, ws ++ [v], acc ++ [dy], (M2.trans (r2.lt k345)).trans L6, ?_, ?_, upd_same, (d5.app (.cons rv .nil)).later L6, q5⟩
        · intro x u e n
          rw [upd_ne (show x ≠ D from fun z => n (.inr z))]
          exact Stay.trans (K2 x u e n) fun u' e' => k345 x u' e' fun y => n (.inl y)
        · refine ⟨r5.len, fun j d e => ?_, fun j es e => ?_, r5.dif, r5.con, G.F.keep _ _ _ r5.str fun x o y e => ?_, r5.bo, r5.on, r5.aB.upd rfl, fun x u e n => ?_, r5.od.mv (fun _ _ z => Dv.later L6 z) fun _ _ b o _ _ e ob _ nl => ⟨by rw [upd_ne (show b ≠ D from fun z => by rw [z, h5] at e; exact nl.1 ws (Option.some.inj e).symm)]; exact e, ob⟩⟩
          · obtain ⟨v, y1, y2⟩ := r5.dat j d e
            exact ⟨v, y1, Dv.later L6 y2⟩
          · obtain ⟨b, us, y1, y2, y3, y4, y5⟩ := r5.own j es e
            refine ⟨b, us, y1, ?_, y3, y4, y5.later L6⟩
            rw [upd_ne (show b ≠ D from fun z => ?_)]
            · exact y2
            · obtain ⟨b', us', w1, w2, w3, _⟩ := r1.own j es e
              rw [y1] at w1
              cases w1
              rw [z] at w3
              exact nD w3
          · rw [upd_ne (y.ne e nS h5 rfl)]
            exact e
          · rw [upd_ne (show x ≠ D from fun z => ?_)]
            · exact r5.kp x u e n
            · subst z
              exact Stay.ne (r1.kp _ u e nS) hD
      | false =>
        refine iteF ?_
        rw [if_neg (by decide)] at q4
        exact ⟨m, ws, acc, LL, KK, r4, h4, d2.later (r2.lt k34), q4⟩
  · refine .inl ⟨(wk _ H2 (L0.trans M2) r2.al i).2 (by omega), ?_⟩
    rw [List.drop_eq_nil_of_le (by omega)] at q2
    have kf : Kp G.F.S H1 H2 := fun x u e n => by
      have ne : x ≠ D := fun z => by rw [z, hD] at e; cases e
      exact K2 x u (same_upd' hD x u e) fun y => y.elim n ne
    have hD0 : H D = none := by
      cases e0 : H D with
      | none => rfl
      | some u =>
        exact (Stay.ne (k1 D u e0 nS) hD).elim
    refine im _ n _ H2 (k1.trans kf) r2.str ⟨D, ws, acc, rfl, rfl, hD0, h2, ?_⟩ q2
    exact d2
end
end Dl
namespace Dl
open PySem PySem.Spec PyProof.Rows L2 Gd
section
variable {X : Cx} {G : Gx}
theorem ts_nil : PTs X [] (lowT G fun E Q => Q true E.n) := ⟨fun p s σ H Q I ⟨O, E, Qd, r, im, z⟩ => (pts_nil (X := X)).run p s σ H Q I (im true E.n H (Kp.refl H) r.str z)⟩
theorem ts_one {c : Expr} {t : TDt} (h : PQ X G c t) : PTs X [c] (lowT G t) := pts_one h
theorem pl_lc {elt target iter : Expr} {ifs : List Expr} {scope : Scope} {own : List (Str × Nat)} {pos : Pos} {it : TId} {tg : Tg} {tt : TDt} {te : TD} (hc : X.calm = true) (hN : X.N.Nodup) (hi : PJ X G target iter it) (ok : BlkOk X.N X.env.scope scope own)
    (hg : ∀ (s : Shared) (H : Hp) (C : Addr) (cl : List (Str × Addr)) (fp : List Addr), PG (X.blk s H scope (compEnvC scope cl C X.env) fp) target (tg.g X.K)) (ht : ∀ (s : Shared) (H : Hp) (C : Addr) (cl : List (Str × Addr)) (fp : List Addr), PTs (X.blk s H scope (compEnvC scope cl C X.env) fp) ifs (lowT G tt))
    (he : ∀ (s : Shared) (H : Hp) (C : Addr) (cl : List (Str × Addr)) (fp : List Addr), PD (X.blk s H scope (compEnvC scope cl C X.env) fp) G elt te) (hv : tgIn tg (own.map (·.2))) (hs : ∀ x, foldedSetIterable iter X.env x = pure x := by intro _; rfl) :
    PL X G (.ListComp elt [⟨target, iter, ifs, 0⟩] scope pos) (dLc it tg tt te (own.map (·.2))) := PE.wk (pe_lc hc hN hi ok hg ht he hs) (lc_low hv)
/-- y = [..] -/
theorem z_ownLc {i : Nat} {y : Str} {py : Pos} {elt target iter : Expr} {ifs : List Expr} {scope : Scope} {own : List (Str × Nat)} {pos spos : Pos} {it : TId} {tg : Tg} {tt : TDt} {te : TD} (hc : X.calm = true) (hN : X.N.Nodup) (hy : X.N[i]? = some y) (hyl : X.env.scope.names.lookup y = some .local)
    (hsw : swapsWith (.ListComp elt [⟨target, iter, ifs, 0⟩] scope pos) (some (.Name y py)) spos.line X.env = pure true) (hi : PJ X G target iter it) (ok : BlkOk X.N X.env.scope scope own)
    (hg : ∀ (s : Shared) (H : Hp) (C : Addr) (cl : List (Str × Addr)) (fp : List Addr), PG (X.blk s H scope (compEnvC scope cl C X.env) fp) target (tg.g X.K)) (ht : ∀ (s : Shared) (H : Hp) (C : Addr) (cl : List (Str × Addr)) (fp : List Addr), PTs (X.blk s H scope (compEnvC scope cl C X.env) fp) ifs (lowT G tt))
    (he : ∀ (s : Shared) (H : Hp) (C : Addr) (cl : List (Str × Addr)) (fp : List Addr), PD (X.blk s H scope (compEnvC scope cl C X.env) fp) G elt te) (hv : tgIn tg (own.map (·.2))) (hs : ∀ x, foldedSetIterable iter X.env x = pure x := by intro _; rfl) :
    PZ X G (.Assign [.Name y py] (.ListComp elt [⟨target, iter, ifs, 0⟩] scope pos) spos) (zOwn i (dLc it tg tt te (own.map (·.2)))) := PS.wk (ps_setLc hc hN hy hyl hsw hi ok hg ht he hs) (own_core (lc_low hv))
end
/-! ### a def over data -/
theorem sl_get {as : List Ar} {m i : Nat} {s : Sl} (h : (as.map Ar.sl ++ List.replicate m Sl.no)[i]? = some s) (ns : s ≠ .no) : ∃ a, as[i]? = some a ∧ s = a.sl := by
  rw [List.getElem?_append] at h
  split at h
  · rw [List.getElem?_map, Option.map_eq_some_iff] at h
    obtain ⟨a, e1, e2⟩ := h
    exact ⟨a, e1, e2.symm⟩
  · rw [List.getElem?_replicate] at h
    split at h
    · cases h; exact (ns rfl).elim
    · cases h
theorem rel_start {G : Gx} {N : List Str} {vs : List V} {as : List Ar} {n m : Nat} (hv : Paired (ArR G.B G.Hs) vs as) (hm : m = N.length - vs.length) (i : G.F.I n G.Hs) : Rel G G.B (start N vs) G.Hs ⟨as.map Ar.sl ++ List.replicate m Sl.no, n⟩ := by
  have get : ∀ {j : Nat} {a : Ar}, as[j]? = some a → ∃ v, (start N vs)[j]? = some (some v) ∧ ArR G.B G.Hs v a := by
    intro j a e
    have : ∀ {vs : List V} {as : List Ar}, Paired (ArR G.B G.Hs) vs as → ∀ {j : Nat} {a : Ar}, as[j]? = some a → ∃ v, vs[j]? = some v ∧ ArR G.B G.Hs v a := by
      intro vs as hv
      induction hv with
      | nil => intro j a e; simp at e
      | cons r _ ih =>
        intro j a e
        cases j with
        | zero =>
          simp only [List.getElem?_cons_zero, Option.some.injEq] at e
          subst e
          exact ⟨_, rfl, r⟩
        | succ j => exact ih (by simpa using e)
    obtain ⟨v, e1, r⟩ := this hv e
    refine ⟨v, ?_, r⟩
    unfold L2.start
    rw [List.getElem?_append_left (by rw [List.length_map]; exact (List.getElem?_eq_some_iff.mp e1).1), List.getElem?_map, e1]
    rfl
  refine ⟨?_, fun j d e => ?_, fun j ds e => ?_, fun j k dj dk a q1 _ _ _ => ?_, fun j v e => ?_, i, fun x z => z, fun x z => .inl z, G.hB, Kp.refl _, OdR.none fun j c e => by
    obtain ⟨a, e1, e2⟩ := sl_get e (fun z => nomatch z)
    cases a <;> cases e2⟩
  · subst hm
    unfold L2.start
    simp [hv.length]
  · obtain ⟨a, e1, e2⟩ := sl_get e (fun z => nomatch z)
    cases a with
    | d y =>
      cases e2
      exact get e1
    | c y => cases e2
  · obtain ⟨a, e1, e2⟩ := sl_get e (fun z => nomatch z)
    cases a <;> cases e2
  · obtain ⟨a, e1, e2⟩ := sl_get q1 (fun z => nomatch z)
    cases a <;> cases e2
  · obtain ⟨a, e1, e2⟩ := sl_get e (fun z => nomatch z)
    cases a with
    | d y => cases e2
    | c y =>
      cases e2
      obtain ⟨w, h1, h2⟩ := get e1
      cases h2
      exact h1
section
variable {P : Program} {w : World} {K : PySem.W.Frag} {mg : Str → Option Value} {base : Heap}
theorem okD {x qual : Str} {st : Stmt} {f : Addr} {fd : FuncData} {N ps : List Str} {k : Nat} {C : Con} {t : Gx → TSd} (F : Fun K x qual st f fd) (S : FnScope N ps (defScope st))
    (der : ∀ (G : Gx) (cdv : Value) (A : Around) (fr : List Env) (s : Shared) (H : Hp) (E : XK), Room k (A.deeper (envOfC qual (defScope st) s.heap.objs.size f cdv)) → PZs (cxOf CX0 P w K mg base N qual (defScope st) f cdv A fr s H E).nox G (defBody st) (t G))
    (sem : ∀ (G : Gx) (as : List Ar) (n : Nat) (Qd : PyData → Nat → Prop), as.length = ps.length → C G.F as n Qd → t G { nx := fun E => Qd .none E.n, rt := Qd } ⟨as.map Ar.sl ++ List.replicate (N.length - ps.length) Sl.no, n⟩) :
    FnOk P w K mg base CX0 (k + 1) f fd ps (spD C ps.length) := by
  refine F.ok S (fun vs H Q E h => h.1) (fun cdv A fr s H vs Q E hr h => ?_)
  obtain ⟨hl, F', B, as, n, Qd, sb, hb, hv, i, im, c⟩ := h
  refine ⟨_, der ⟨F', B, H, sb, hb⟩ cdv A fr s H E hr, B, _, _, rel_start (G := ⟨F', B, H, sb, hb⟩) hv rfl i, ?_, by have := sem ⟨F', B, H, sb, hb⟩ as n Qd (hv.length.symm.trans hl) c; rw [← hl] at this; exact this⟩
  exact ⟨fun O' σ' H' E' l r q => im .none E'.n .non H' r.kp r.str .non q, fun v H' d n k i dv q => im d n v H' k i dv q, fun _ _ _ _ _ _ q => q.elim, fun _ _ _ _ _ _ q => q.elim⟩
theorem exG {X : Cx} {st : List Stmt} {t : Gx → TSd} (h : ∀ G : Gx, PZs X G st (t G)) : PSs X st (fun D σ H => ∃ G : Gx, lowS G (t G) D σ H) := ⟨fun p s σ H D I ⟨G, z⟩ => (h G).run p s σ H D I z⟩
structure Cd (P : Program) (w : World) (K : PySem.W.Frag) (mg : Str → Option Value) (base : Heap) (k : Nat) (x : Str) (f : Addr) (fd : FuncData) (ps : List Str) (C : Con) : Prop where
  G : FnOk P w K mg base CX0 k f fd ps (spD C ps.length)
  kp : PySem.W.keepIn K (.ref f) = true
  b : Binds K fd ps []
  g : mg x = some (.ref f)
theorem Cd.mono {j k : Nat} {x : Str} {f : Addr} {fd : FuncData} {ps : List Str} {C : Con} (c : Cd P w K mg base j x f fd ps C) (h : j ≤ k) : Cd P w K mg base k x f fd ps C := ⟨c.G.mono h, c.kp, c.b, c.g⟩
end
end Dl
namespace Dl
open PySem PySem.Spec PyProof.Rows L2 Gd
abbrev dI (i : Int) : PyData := .int i
abbrev tupI (ns : List Int) : PyData := .tuple (ns.map dI)
abbrev lstI (ns : List Int) : PyData := .list (ns.map dI)
def intsOf : List PyData → Option (List Int)
  | [] => some []
  | .int i :: r => (intsOf r).map (i :: ·)
  | _ :: _ => none
theorem intsOf_map : ∀ ns : List Int, intsOf (ns.map dI) = some ns
  | [] => rfl
  | n :: r => by rw [List.map_cons, intsOf, intsOf_map r]; rfl
theorem ints_dv {O : Addr → Prop} {H : Hp} : ∀ {vs : List V} {ds : List PyData} {ns : List Int}, DvL O H vs ds → intsOf ds = some ns → vs = ns.map V.int
  | _, _, _, .nil, e => by cases e; rfl
  | _, _, _, .cons (b := .int i) r t, e => by
    rw [intsOf, Option.map_eq_some_iff] at e
    obtain ⟨ms, e1, rfl⟩ := e
    cases r
    rw [ints_dv t e1]
    rfl
  | _, _, _, .cons (b := .none) r t, e => by cases e
  | _, _, _, .cons (b := .bool _) r t, e => by cases e
  | _, _, _, .cons (b := .str _) r t, e => by cases e
  | _, _, _, .cons (b := .list _) r t, e => by cases e
  | _, _, _, .cons (b := .tuple _) r t, e => by cases e
  | _, _, _, .cons (b := .dict _) r t, e => by cases e
theorem get_tupI {ns : List Int} {i : Nat} (h : i < ns.length) : atI (ns.map dI) (i : Int) = some (.int (ns.getD i 0)) := by
  unfold atI ixN
  rw [if_pos (by omega), if_pos (by rw [List.length_map]; omega)]
  show (ns.map dI)[(i : Int).toNat]? = _
  rw [Int.toNat_natCast, List.getElem?_map, List.getElem?_eq_getElem h, List.getD_eq_getElem?_getD, List.getElem?_eq_getElem h]
  rfl
section
variable {X : Cx} {G : Gx}
/-! ### max, min, sum of a list of whole numbers -/
def maxI : List Int → Int
  | [] => 0
  | [a] => a
  | a :: b :: r => if a ≤ maxI (b :: r) then maxI (b :: r) else a
def minI : List Int → Int
  | [] => 0
  | [a] => a
  | a :: b :: r => if minI (b :: r) ≤ a then minI (b :: r) else a
theorem maxI_of : ∀ (ns : List Int) (m : Int), m ∈ ns → (∀ y ∈ ns, y ≤ m) → maxI ns = m
  | [], m, h, _ => by cases h
  | [a], m, h, _ => by
    rcases List.mem_cons.mp h with h | h
    · exact h.symm
    · cases h
  | a :: b :: r, m, h, g => by
    unfold maxI
    have ga := g a List.mem_cons_self
    have key : ∀ (l : List Int), l ≠ [] → maxI l ∈ l ∧ ∀ y ∈ l, y ≤ maxI l := by
      intro l
      induction l with
      | nil => intro h; exact (h rfl).elim
      | cons a l ih =>
        intro _
        cases l with
        | nil => exact ⟨List.mem_cons_self, fun y hy => by rcases List.mem_cons.mp hy with rfl | hy; exact Int.le_refl _; cases hy⟩
        | cons b l =>
          obtain ⟨i1, i2⟩ := ih (by simp)
          unfold maxI
          split
          · exact ⟨List.mem_cons_of_mem _ i1, fun y hy => by rcases List.mem_cons.mp hy with rfl | hy; assumption; exact i2 y hy⟩
          · refine ⟨List.mem_cons_self, fun y hy => ?_⟩
            rcases List.mem_cons.mp hy with rfl | hy
            · exact Int.le_refl _
            · have := i2 y hy
              omega
    obtain ⟨k1, k2⟩ := key (b :: r) (by simp)
    have g1 := g _ (List.mem_cons_of_mem a k1)
    split
    · rcases List.mem_cons.mp h with rfl | h
      · omega
      · have := k2 m h
        omega
    · rcases List.mem_cons.mp h with rfl | h
      · rfl
      · have := k2 m h
        omega
theorem minI_of : ∀ (ns : List Int) (m : Int), m ∈ ns → (∀ y ∈ ns, m ≤ y) → minI ns = m
  | [], m, h, _ => by cases h
  | [a], m, h, _ => by
    rcases List.mem_cons.mp h with h | h
    · exact h.symm
    · cases h
  | a :: b :: r, m, h, g => by
    unfold minI
    have ga := g a List.mem_cons_self
    have key : ∀ (l : List Int), l ≠ [] → minI l ∈ l ∧ ∀ y ∈ l, minI l ≤ y := by
      intro l
      induction l with
      | nil => intro h; exact (h rfl).elim
      | cons a l ih =>
        intro _
        cases l with
        | nil => exact ⟨List.mem_cons_self, fun y hy => by rcases List.mem_cons.mp hy with rfl | hy; exact Int.le_refl _; cases hy⟩
        | cons b l =>
          obtain ⟨i1, i2⟩ := ih (by simp)
          unfold minI
          split
          · exact ⟨List.mem_cons_of_mem _ i1, fun y hy => by rcases List.mem_cons.mp hy with rfl | hy; assumption; exact i2 y hy⟩
          · refine ⟨List.mem_cons_self, fun y hy => ?_⟩
            rcases List.mem_cons.mp hy with rfl | hy
            · exact Int.le_refl _
            · have := i2 y hy
              omega
    obtain ⟨k1, k2⟩ := key (b :: r) (by simp)
    have g1 := g _ (List.mem_cons_of_mem a k1)
    split
    · rcases List.mem_cons.mp h with rfl | h
      · omega
      · have := k2 m h
        omega
    · rcases List.mem_cons.mp h with rfl | h
      · rfl
      · have := k2 m h
        omega
def gInts (f : List Int → Option Int) : PyData → Option PyData
  | .list ds => (intsOf ds).bind fun ns => (f ns).map dI
  | _ => none
theorem gInts_el {f : List Int → Option Int} {d z : PyData} (h : gInts f d = some z) : ∃ ds ns m, d = .list ds ∧ intsOf ds = some ns ∧ f ns = some m ∧ z = .int m := by
  unfold gInts at h
  split at h
  · rename_i ds
    cases e : intsOf ds with
    | none => rw [e] at h; cases h
    | some ns =>
      rw [e] at h
      cases e2 : f ns with
      | none => rw [show (some ns).bind (fun ns => (f ns).map dI) = (f ns).map dI from rfl, e2] at h; cases h
      | some m =>
        rw [show (some ns).bind (fun ns => (f ns).map dI) = (f ns).map dI from rfl, e2] at h
        cases h
        exact ⟨ds, ns, m, rfl, e, e2, rfl⟩
  · cases h
abbrev gMaxL := gInts fun ns => if ns = [] then none else some (maxI ns)
abbrev gMinL := gInts fun ns => if ns = [] then none else some (minI ns)
abbrev gSumL := gInts fun ns => some ns.sum
theorem pd_maxL {a : Expr} {ta : TD} {p pos : Pos} (hc : X.calm = true) (ha : PB X G a ta) (hm : X.mg "max" = none) (hg : Gl X "max" := by rfl) (hs : starEach [a] X.env = (false, eval a X.env) :: starEach [] X.env := by rfl) : PD X G (.Call (.Name "max" p) [a] [] pos) (dUn gMaxL ta) :=
  PE.wk (pe_callB (cr_max hc) hg hm (by decide +kernel) (pa_cons ha pa_nil hs) (he := hs)) (cl1 fun O H x dx z Q al bx e q => by
    obtain ⟨ds, ns, m, rfl, e1, e2, rfl⟩ := gInts_el e
    obtain ⟨a, vs, rfl, h1, d1⟩ := bx.lst
    have := ints_dv d1 e1
    subst this
    split at e2
    · cases e2
    · cases e2
      rename_i hn
      exact ⟨a, ns, rfl, sq_of h1, by cases ns; exact (hn rfl).elim; simp, fun m h2 h3 => by rw [maxI_of ns m h2 h3] at q; exact nw_now q (.int _)⟩)
theorem pd_minL {a : Expr} {ta : TD} {p pos : Pos} (hc : X.calm = true) (ha : PB X G a ta) (hm : X.mg "min" = none) (hg : Gl X "min" := by rfl) (hs : starEach [a] X.env = (false, eval a X.env) :: starEach [] X.env := by rfl) : PD X G (.Call (.Name "min" p) [a] [] pos) (dUn gMinL ta) :=
  PE.wk (pe_callB (cr_min hc) hg hm (by decide +kernel) (pa_cons ha pa_nil hs) (he := hs)) (cl1 fun O H x dx z Q al bx e q => by
    obtain ⟨ds, ns, m, rfl, e1, e2, rfl⟩ := gInts_el e
    obtain ⟨a, vs, rfl, h1, d1⟩ := bx.lst
    have := ints_dv d1 e1
    subst this
    split at e2
    · cases e2
    · cases e2
      rename_i hn
      exact ⟨a, ns, rfl, sq_of h1, by cases ns; exact (hn rfl).elim; simp, fun m h2 h3 => by rw [minI_of ns m h2 h3] at q; exact nw_now q (.int _)⟩)
theorem pd_sumL {a : Expr} {ta : TD} {p pos : Pos} (hc : X.calm = true) (ha : PB X G a ta) (hm : X.mg "sum" = none) (hg : Gl X "sum" := by rfl) (hs : starEach [a] X.env = (false, eval a X.env) :: starEach [] X.env := by rfl) : PD X G (.Call (.Name "sum" p) [a] [] pos) (dUn gSumL ta) :=
  PE.wk (pe_callB (cr_sum hc) hg hm (by decide +kernel) (pa_cons ha pa_nil hs) (he := hs)) (cl1 fun O H x dx z Q al bx e q => by
    obtain ⟨ds, ns, m, rfl, e1, e2, rfl⟩ := gInts_el e
    obtain ⟨a, vs, rfl, h1, d1⟩ := bx.lst
    have := ints_dv d1 e1
    subst this
    cases e2
    exact ⟨a, ns, rfl, sq_of h1, nw_now q (.int _)⟩)
end
end Dl
namespace Lw
open PySem PySem.Spec PyProof.Rows L2 Gd Dl
def strF (s a b : Addr) : Fr where
  S := fun x => x = s ∨ x = a ∨ x = b
  I := fun n H => Sm H s a b n
  s := .ref s
  keep := fun n H H' h k => by
    obtain ⟨⟨t, bigs, cells, h1, h2, h3, r⟩, p1, p2, p3⟩ := h
    exact ⟨⟨t, bigs, cells, k _ _ (.inl (.inl rfl)) h1, k _ _ (.inl (.inr (.inl rfl))) h2, k _ _ (.inl (.inr (.inr rfl))) h3, r⟩, p1, p2, p3⟩
  aS := fun n H h => by
    obtain ⟨⟨t, bigs, cells, h1, h2, h3, r⟩, p1, p2, p3⟩ := h
    refine ⟨fun x k => ?_, fun x k o e => ?_⟩
    · rcases k with rfl | rfl | rfl
      · rw [h1]; exact fun z => by cases z
      · rw [h2]; exact fun z => by cases z
      · rw [h3]; exact fun z => by cases z
    · rcases k with rfl | rfl | rfl
      · rw [h1] at e; cases e; rfl
      · rw [h2] at e; cases e; rfl
      · rw [h3] at e; cases e; rfl
def IsS (F : Fr) : Prop := ∃ s a b, F = strF s a b
theorem kp_av {s a b : Addr} {H H' : Hp} (k : Kq (Av s a) H H') : Kp (strF s a b).S H H' := fun x o e n => Stay.of (k x o e fun z => n (z.elim .inl fun y => .inr (.inl y)))
theorem args2 {B : Addr → Prop} {H : Hp} {vs : List V} {v : V} {d : PyData} (h : Paired (ArR B H) vs [.c v, .d d]) : ∃ u, vs = [v, u] ∧ Dv B H u d := by
  cases h with
  | cons h1 h2 =>
    cases h2 with
    | cons h3 h4 =>
      cases h4
      cases h1
      exact ⟨_, rfl, h3⟩
def C__law_draw : Con := fun F as n Q => ∃ m : Int, as = [.c F.s, .d (.int m)] ∧ IsS F ∧ n < 1000000 ∧ 0 < m ∧ m ≤ 10000000000000000000000000000000000000000 ∧ ∀ r : Int, 0 ≤ r → r < m → Q (.int r) (n + 1)
theorem draw_sp : ∀ vs H Q E, spD C__law_draw 2 vs H Q E → spDraw vs H Q E := by
  rintro vs H Q E ⟨hl, F, B, as, n, Qd, sb, hb, hv, i, im, m, rfl, ⟨s, a, b, rfl⟩, h1, h2, h3, q⟩
  obtain ⟨u, rfl, hu⟩ := args2 hv
  cases hu
  exact ⟨s, a, b, n, m, rfl, i, h1, h2, h3, fun H' r k sm r0 r1 => im _ _ _ H' (kp_av k) sm (.int r) (q r r0 r1)⟩
theorem dvl_ints {O : Addr → Prop} {H : Hp} : ∀ ns : List Int, DvL O H (ns.map V.int) (ns.map dI)
  | [] => .nil
  | n :: r => .cons (.int n) (dvl_ints r)
/-- behind the stream's making: the rest of the law over data -/
theorem law_go {t : Gx → TSd} {H1 : Hp} {s a b sc : Addr} {m : Nat} {D : Ends} (sm : Sm H1 s a b 0) (sem : ∀ G : Gx, IsS G.F → t G { nx := fun _ => False, rt := fun d _ => d = .bool true } ⟨.no :: .con G.F.s :: List.replicate m .no, 0⟩) (q : ∀ H', D.rt (.bl true) H') :
    ∃ G : Gx, lowS G (t G) D (some (.ref sc) :: some (.ref s) :: List.replicate m none) H1 := by
  let G : Gx := ⟨strF s a b, (strF s a b).S, H1, fun _ z => z, (strF s a b).aS 0 H1 sm⟩
  refine ⟨G, G.B, _, _, ?_, ?_, sem G ⟨s, a, b, rfl⟩⟩
  · have hno : ∀ {i : Nat} {sl : Sl}, (Sl.no :: Sl.con G.F.s :: List.replicate m Sl.no)[i]? = some sl → sl = .no ∨ (i = 1 ∧ sl = .con G.F.s) := by
      intro i sl h
      match i with
      | 0 => cases h; exact .inl rfl
      | 1 => cases h; exact .inr ⟨rfl, rfl⟩
      | i + 2 =>
        rw [List.getElem?_cons_succ, List.getElem?_cons_succ, List.getElem?_replicate] at h
        split at h
        · cases h; exact .inl rfl
        · cases h
    refine ⟨by simp, fun i d h => ?_, fun i ds h => ?_, fun i j di dj x h _ _ _ => ?_, fun i v h => ?_, sm, fun _ z => z, fun _ z => .inl z, G.hB, Kp.refl _, OdR.none fun j c h => by rcases hno h with z | ⟨_, z⟩ <;> cases z⟩
    · rcases hno h with z | ⟨_, z⟩ <;> cases z
    · rcases hno h with z | ⟨_, z⟩ <;> cases z
    · rcases hno h with z | ⟨_, z⟩ <;> cases z
    · rcases hno h with z | ⟨rfl, z⟩
      · cases z
      · cases z
        rfl
  · refine ⟨fun _ _ _ _ _ _ z => z.elim, fun v H' d n _ _ dv e => ?_, fun _ _ _ _ _ _ z => z.elim, fun _ _ _ _ _ _ z => z.elim⟩
    have e' : d = .bool true := e
    subst e'
    cases dv
    exact q H'
def spLaw (K : PySem.W.Frag) : Sp := fun vs H Q _ => ∃ (sc : Addr) (ns : List Int), vs = [.ref sc] ∧ SqL K H sc (ns.map V.int) ∧ ns.length ≤ 63 ∧ ∀ H', Q (.bl true) H'
structure Cal (P : Program) (w : World) (K : PySem.W.Frag) (mg : Str → Option Value) (base : Heap) (k : Nat) (x : Str) (f : Addr) (fd : FuncData) (ps : List Str) (sp : Sp) : Prop where
  G : FnOk P w K mg base CX0 k f fd ps sp
  kp : PySem.W.keepIn K (.ref f) = true
  b : Binds K fd ps []
  g : mg x = some (.ref f)
end Lw
/-! Loops and comprehensions over data: invariants. -/
namespace Dl
open PySem PySem.Spec PyProof.Rows L2 Gd
theorem rangeD_length (lo : Int) (n : Nat) : (rangeD lo n).length = n := by simp [rangeD]
theorem rangeD_get {lo : Int} {n i : Nat} (h : i < n) : (rangeD lo n)[i]? = some (.int (lo + (i : Nat))) := by
  unfold rangeD
  rw [List.getElem?_map, List.getElem?_range h]
  rfl
/-- a loop over items, by an invariant of the turn -/
theorem for_L {tg : Tg} {tb : TSd} {D : DEnds} (ds : List PyData) (I : Nat → En → Prop) {E : En} (h0 : I 0 E)
    (step : ∀ (i : Nat) (d : PyData) (E : En) (D' : DEnds), ds[i]? = some d → I i E → (∀ E', I (i + 1) E' → D'.nx E') → (∀ E', I (i + 1) E' → D'.ct E') → D'.bk = D.nx → D'.rt = D.rt → opt (tg.put d E.ρ) fun ρ => tb D' ⟨ρ, E.n⟩)
    (fin : ∀ E, I ds.length E → D.nx E) : dForL tg tb D ds E := by
  have key : ∀ (k i : Nat) (E : En), i + k = ds.length → I i E → dForL0 tg tb D (ds.drop i) E := by
    intro k
    induction k with
    | zero =>
      intro i E hi h
      rw [List.drop_eq_nil_of_le (by omega)]
      exact fin E (by have : i = ds.length := by omega
                      subst this; exact h)
    | succ k ih =>
      intro i E hi h
      have hl : i < ds.length := by omega
      rw [List.drop_eq_getElem_cons hl]
      exact step i _ E _ (List.getElem?_eq_getElem hl) h (fun E' h' => ih (i + 1) E' (by omega) h') (fun E' h' => ih (i + 1) E' (by omega) h') rfl rfl
  have := key ds.length 0 E (by omega) h0
  refine ⟨?_⟩
  simpa using this
theorem for_R {tg : Tg} {tb : TSd} {D : DEnds} (lo : Int) (n : Nat) (I : Nat → En → Prop) {E : En} (h0 : I 0 E)
    (step : ∀ (i : Nat) (E : En) (D' : DEnds), i < n → I i E → (∀ E', I (i + 1) E' → D'.nx E') → (∀ E', I (i + 1) E' → D'.ct E') → D'.bk = D.nx → D'.rt = D.rt → opt (tg.put (.int (lo + (i : Nat))) E.ρ) fun ρ => tb D' ⟨ρ, E.n⟩)
    (fin : ∀ E, I n E → D.nx E) : dForL tg tb D (rangeD lo n) E := by
  refine for_L (rangeD lo n) I h0 (fun i d E D' hd h a b c e => ?_) (fun E h => fin E (by rw [rangeD_length] at h; exact h))
  have hi : i < n := by
    have := (List.getElem?_eq_some_iff.mp hd).1
    rwa [rangeD_length] at this
  rw [rangeD_get hi] at hd
  cases hd
  exact step i E D' hi h a b c e
/-- a comprehension whose parts are told -/
theorem lc_P0 {tg : Tg} {tt : TDt} {te : TD} {ρ0 : List Sl} {Q : PyData → Nat → Prop} (ds : List PyData) (p : PyData → Bool) (f : PyData → PyData) : ∀ (acc : List PyData) (n : Nat),
    (∀ d ∈ ds, ∃ ρ, tg.put d ρ0 = some ρ ∧ (∀ (n : Nat) (R : Bool → Nat → Prop), R (p d) n → tt ⟨ρ, n⟩ R) ∧ (p d = true → ∀ (n : Nat) (R : PyData → Nat → Prop), R (f d) n → te ⟨ρ, n⟩ R)) → acc.length + ds.length ≤ 100000 → Q (.list (acc ++ (ds.filter p).map f)) n → dLcL0 tg tt te ρ0 Q ds acc n := by
  induction ds with
  | nil =>
    intro acc n _ _ q
    show Q _ n
    simpa using q
  | cons d ds ih =>
    intro acc n h hl q
    obtain ⟨ρ, e, h1, h2⟩ := h d List.mem_cons_self
    have hl' : acc.length + (ds.length + 1) ≤ 100000 := hl
    refine opt_of e (h1 n _ ?_)
    cases e2 : p d with
    | true =>
      rw [if_pos rfl]
      refine h2 e2 n _ ⟨by omega, ?_⟩
      refine ih _ n (fun d' hd' => h d' (List.mem_cons_of_mem _ hd')) (by simp; omega) ?_
      rw [List.filter_cons, e2, if_pos rfl] at q
      simpa using q
    | false =>
      rw [if_neg (by decide)]
      refine ih _ n (fun d' hd' => h d' (List.mem_cons_of_mem _ hd')) (by omega) ?_
      rw [List.filter_cons, e2, if_neg (by decide)] at q
      exact q
theorem lc_P {tg : Tg} {tt : TDt} {te : TD} {ρ0 : List Sl} {Q : PyData → Nat → Prop} (ds : List PyData) (p : PyData → Bool) (f : PyData → PyData) (acc : List PyData) (n : Nat)
    (h : ∀ d ∈ ds, ∃ ρ, tg.put d ρ0 = some ρ ∧ (∀ (n : Nat) (R : Bool → Nat → Prop), R (p d) n → tt ⟨ρ, n⟩ R) ∧ (p d = true → ∀ (n : Nat) (R : PyData → Nat → Prop), R (f d) n → te ⟨ρ, n⟩ R)) (hl : acc.length + ds.length ≤ 100000) (q : Q (.list (acc ++ (ds.filter p).map f)) n) : dLcL tg tt te ρ0 Q ds acc n := by
  refine ⟨?_⟩
  exact lc_P0 ds p f acc n h hl q
theorem lc_R {tg : Tg} {tt : TDt} {te : TD} {ρ0 : List Sl} {Q : PyData → Nat → Prop} (lo : Int) (m : Nat) (p : Nat → Bool) (f : Nat → PyData) {n : Nat}
    (h : ∀ i < m, ∃ ρ, tg.put (.int (lo + (i : Nat))) ρ0 = some ρ ∧ (∀ (n : Nat) (R : Bool → Nat → Prop), R (p i) n → tt ⟨ρ, n⟩ R) ∧ (p i = true → ∀ (n : Nat) (R : PyData → Nat → Prop), R (f i) n → te ⟨ρ, n⟩ R)) (hl : m ≤ 100000) (q : Q (.list (((List.range m).filter p).map f)) n) : dLcL tg tt te ρ0 Q (rangeD lo m) [] n := by
  let un : PyData → Nat := fun d => match d with | .int i => (i - lo).toNat | _ => 0
  have e : ∀ i : Nat, un (.int (lo + (i : Nat))) = i := fun i => by show (lo + (i : Nat) - lo).toNat = i; omega
  refine lc_P (rangeD lo m) (fun d => p (un d)) (fun d => f (un d)) [] n (fun d hd => ?_) (by rw [rangeD_length]; simpa using hl) ?_
  · unfold rangeD at hd
    obtain ⟨i, hi, rfl⟩ := List.mem_map.mp hd
    obtain ⟨ρ, h1, h2, h3⟩ := h i (List.mem_range.mp hi)
    refine ⟨ρ, h1, ?_, ?_⟩
    · rw [e]
      exact h2
    · rw [e]
      exact h3
  · have : ((rangeD lo m).filter fun d => p (un d)).map (fun d => f (un d)) = ((List.range m).filter p).map f := by
      unfold rangeD
      rw [List.filter_map, List.map_map]
      have e1 : (fun d => p (un d)) ∘ (fun i : Nat => PyData.int (lo + (i : Nat))) = p := funext fun i => by rw [Function.comp, e]
      have e2 : (fun d => f (un d)) ∘ (fun i : Nat => PyData.int (lo + (i : Nat))) = f := funext fun i => by rw [Function.comp, e]
      rw [e1, e2]
    rw [this]
    exact q
end Dl
namespace Dl
open PySem PySem.Spec PyProof.Rows L2 Gd
theorem ifT {b : Bool} {p q : Prop} (h1 : b = true → p) (h2 : b = false → q) : if b = true then p else q := by
  cases b with
  | true => rw [if_pos rfl]; exact h1 rfl
  | false => rw [if_neg (by decide)]; exact h2 rfl
theorem dec2 {p : Prop} [Decidable p] (h : p) : decide p = true := decide_eq_true h
end Dl
/-! What repr asks of data; equal texts. -/
namespace Dl
open PySem PySem.Spec PyProof.Rows L2 Gd
structure Fit (w k : Nat) (d : PyData) : Prop where
  sh : d.showable = true
  lv : d.leavesShort 100 = true
  wt : d.weight ≤ w
  dp : d.depth ≤ k
theorem Fit.mono {w w' k k' : Nat} {d : PyData} (h : Fit w k d) (hw : w ≤ w') (hk : k ≤ k') : Fit w' k' d := ⟨h.sh, h.lv, Nat.le_trans h.wt hw, Nat.le_trans h.dp hk⟩
theorem fit_int {i : Int} (h : i.natAbs < 10 ^ 45) : Fit 150 0 (.int i) := by
  have e : i.natAbs.log2 < 150 := by
    by_cases z : i.natAbs = 0
    · rw [z]
      decide
    · exact (Nat.log2_lt z).mpr (Nat.lt_of_lt_of_le h (by decide))
  refine ⟨?_, ?_, ?_, ?_⟩
  · rw [PyData.showable]
    exact decide_eq_true (by omega)
  · rw [PyData.leavesShort]
    refine decide_eq_true ?_
    rw [PyData.shown_int]
    have e := int_text_length_le10 (k := 45) (by decide) h
    rw [PySem.ofString_length]
    omega
  · rw [PyData.weight]
    split <;> omega
  · rw [PyData.depth]
    omega
theorem fit_non : Fit 0 0 .none := ⟨rfl, rfl, by rw [PyData.weight]; omega, by rw [PyData.depth]; omega⟩
theorem fit_bool {b : Bool} : Fit 0 0 (.bool b) := ⟨rfl, rfl, by rw [PyData.weight]; omega, by rw [PyData.depth]; omega⟩
theorem fit_all {w k : Nat} : ∀ {ds : List PyData}, (∀ d ∈ ds, Fit w k d) → PyData.showableAll ds = true ∧ PyData.leavesShortAll 100 ds = true ∧ PyData.weightAll ds ≤ (w + 1) * ds.length ∧ PyData.depthAll ds ≤ k
  | [], _ => ⟨rfl, rfl, by simp [PyData.weightAll], by simp [PyData.depthAll]⟩
  | d :: ds, h => by
    obtain ⟨i1, i2, i3, i4⟩ := fit_all (fun x hx => h x (List.mem_cons_of_mem _ hx))
    have f := h d List.mem_cons_self
    have fw := f.wt
    have fd := f.dp
    refine ⟨by rw [PyData.showableAll, f.sh, i1]; rfl, by rw [PyData.leavesShortAll, f.lv, i2]; rfl, ?_, ?_⟩
    · rw [PyData.weightAll, List.length_cons, Nat.mul_succ]
      omega
    · rw [PyData.depthAll]
      omega
theorem fit_tup {w k W : Nat} {ds : List PyData} (h : ∀ d ∈ ds, Fit w k d) (hw : (w + 1) * ds.length ≤ W) : Fit W (k + 1) (.tuple ds) := by
  obtain ⟨i1, i2, i3, i4⟩ := fit_all h
  exact ⟨by rw [PyData.showable]; exact i1, by rw [PyData.leavesShort]; exact i2, by rw [PyData.weight]; omega, by rw [PyData.depth]; omega⟩
theorem fit_lst {w k W : Nat} {ds : List PyData} (h : ∀ d ∈ ds, Fit w k d) (hw : (w + 1) * ds.length ≤ W) : Fit W (k + 1) (.list ds) := by
  obtain ⟨i1, i2, i3, i4⟩ := fit_all h
  exact ⟨by rw [PyData.showable]; exact i1, by rw [PyData.leavesShort]; exact i2, by rw [PyData.weight]; omega, by rw [PyData.depth]; omega⟩
theorem fit_tupI {ns : List Int} (h : ∀ x ∈ ns, x.natAbs < 10 ^ 45) {m : Nat} (hl : ns.length ≤ m) : Fit (151 * m) 1 (tupI ns) :=
  fit_tup (fun d hd => by obtain ⟨n, hn, rfl⟩ := List.mem_map.mp hd; exact fit_int (h n hn)) (by rw [List.length_map]; omega)
theorem fit_lstI {ns : List Int} (h : ∀ x ∈ ns, x.natAbs < 10 ^ 45) {m : Nat} (hl : ns.length ≤ m) : Fit (151 * m) 1 (lstI ns) :=
  fit_lst (fun d hd => by obtain ⟨n, hn, rfl⟩ := List.mem_map.mp hd; exact fit_int (h n hn)) (by rw [List.length_map]; omega)
theorem fit_two {w k : Nat} {d e : PyData} (h : Fit w k d) (h' : Fit w k e) : Fit (2 * (w + 1)) (k + 1) (.list [d, e]) :=
  fit_lst (fun x hx => by
    rcases List.mem_cons.mp hx with rfl | hx
    · exact h
    · rcases List.mem_cons.mp hx with rfl | hx
      · exact h'
      · cases hx) (by simp; omega)
theorem Fit.repr {w k : Nat} {d : PyData} (h : Fit w k d) (hw : w ≤ 150000 := by decide) (hk : k ≤ 60 := by decide) : gRepr d = some (.str d.shown) := by
  have z := PyData.shown_le 100 (by decide) _ h.lv
  have hwt := h.wt
  have hdp := h.dp
  unfold gRepr
  rw [h.sh, decide_eq_true (Nat.le_trans z (Nat.le_of_lt (Nat.lt_of_le_of_lt (by omega : _ ≤ 102 * 150000 + 100) (by decide)))), decide_eq_true (Nat.le_trans hdp hk)]
  rfl
theorem neq_self {s : Str} : gEq true (.str s) (.str s) = some (.bool false) := by
  unfold gEq
  show some (PyData.bool (true != decide (s = s))) = _
  rw [decide_eq_true rfl]
  rfl
theorem neq_int {i j : Int} : gEq true (.int i) (.int j) = some (.bool (!decide (i = j))) := by
  unfold gEq
  show some (PyData.bool (true != decide (i = j))) = _
  rw [Bool.true_bne]
theorem eq_int {i j : Int} : gEq false (.int i) (.int j) = some (.bool (decide (i = j))) := by
  unfold gEq
  show some (PyData.bool (false != decide (i = j))) = _
  rw [Bool.false_bne]
theorem gMaxL_of {ms : List Int} {m : Int} (h : m ∈ ms) (g : ∀ y ∈ ms, y ≤ m) : gMaxL (lstI ms) = some (.int m) := by
  unfold gMaxL gInts
  dsimp only
  rw [intsOf_map]
  show ((if ms = [] then none else some (maxI ms)) : Option Int).map dI = _
  rw [if_neg (by rintro rfl; cases h), maxI_of ms m h g]
  rfl
theorem shaped_ints {ns : List Int} : SeqAt.shaped (lstI ns) = true ∧ SeqAt.shaped (tupI ns) = true := by
  have h1 : ∀ ns : List Int, PyData.canLayAll0 (ns.map dI) = true ∧ PyData.depthAll (ns.map dI) = 0 := by
    intro ns
    induction ns with
    | nil => exact ⟨rfl, rfl⟩
    | cons n r ih => exact ⟨by rw [List.map_cons, PyData.canLayAll0, ih.1]; rfl, by rw [List.map_cons, PyData.depthAll, ih.2]; rfl⟩
  obtain ⟨a, b⟩ := h1 ns
  constructor <;> (unfold SeqAt.shaped; rw [PyData.canLay0, a, PyData.depth, b]; rfl)
theorem eqv_ints : ∀ (ns ms : List Int), PyData.eqvAll (ns.map dI) (ms.map dI) = decide (ns = ms)
  | [], [] => rfl
  | [], _ :: _ => rfl
  | _ :: _, [] => rfl
  | n :: ns, m :: ms => by
    rw [List.map_cons, List.map_cons, PyData.eqvAll, eqv_ints ns ms, PyData.eqv]
    by_cases e : n = m
    · subst e
      simp
    · simp [e]
theorem eq_lstI {neg : Bool} {ns ms : List Int} : gEq neg (lstI ns) (lstI ms) = some (.bool (neg != decide (ns = ms))) := by
  unfold gEq
  show (if (SeqAt.shaped (lstI ns) && SeqAt.shaped (lstI ms)) = true then some (PyData.bool (neg != PyData.eqv (lstI ns) (lstI ms))) else none) = _
  rw [shaped_ints.1, shaped_ints.1]
  rw [Bool.and_true, if_pos rfl, PyData.eqv, eqv_ints]
theorem eq_tupI {neg : Bool} {ns ms : List Int} : gEq neg (tupI ns) (tupI ms) = some (.bool (neg != decide (ns = ms))) := by
  unfold gEq
  show (if (SeqAt.shaped (tupI ns) && SeqAt.shaped (tupI ms)) = true then some (PyData.bool (neg != PyData.eqv (tupI ns) (tupI ms))) else none) = _
  rw [shaped_ints.2, shaped_ints.2]
  rw [Bool.and_true, if_pos rfl, PyData.eqv, eqv_ints]
end Dl
namespace Dl
open PySem PySem.Spec PyProof.Rows L2 Gd
section
variable {X : Cx} {G : Gx}
/-! a, b = x, y -/
def zPar (js : List Nat) (ts : TDa) : TSd := fun D E => ts E fun as n => opt (dats as) fun ds => D.nx ⟨setsD E.ρ js ds, n⟩
theorem par_two {O : Addr → Prop} {H : Hp} {σ : L2.St} {E : En} {vs : List V} {ds : List PyData} {i j : Nat} (r : Rel G O σ H E) (d : DvL O H vs ds) (hl : vs.length = 2) : ∃ v w, vs = [v, w] ∧ Rel G O ((σ.set i (some v)).set j (some w)) H ⟨setsD E.ρ [i, j] ds, E.n⟩ := by
  have := rel_sets (G := G) [i, j] vs ds σ E r d
  match vs, hl with
  | [v, w], _ => exact ⟨v, w, rfl, this⟩
theorem z_par {i j : Nat} {x y : Str} {a b : Expr} {ts : TDa} {px py pt pos : Pos} {kt k2 pt2} (hc : X.calm = true) (hN : X.N.Nodup) (hi : X.N[i]? = some x) (hj : X.N[j]? = some y) (hij : i ≠ j)
    (hx : X.env.scope.names.lookup x = some .local) (hy : X.env.scope.names.lookup y = some .local) (ha : PR X G [a, b] ts)
    (hw : swappedStores [.Tuple [.Name x px, .Name y py] kt pt] (.Tuple [a, b] k2 pt2) X.env = pure (some [x, y]))
    (hs : swapsWithSole [.Tuple [.Name x px, .Name y py] kt pt] (.Tuple [a, b] k2 pt2) pos.line X.env = pure false := by rfl) :
    PZ X G (.Assign [.Tuple [.Name x px, .Name y py] kt pt] (.Tuple [a, b] k2 pt2) pos) (zPar [i, j] (fun E Q => ts E fun as n => as.length = 2 ∧ Q as n)) := PS.wk (ps_par hc hN hi hj hij hx hy ha hw hs) fun D σ H ⟨O, E, Dd, r, k, z⟩ => by
  refine ⟨O, E, _, r, ?_, z⟩
  rintro as n vs H1 k1 i1 rv ⟨hl, q1⟩
  obtain ⟨ds, e, q⟩ := opt_el q1
  obtain ⟨v, w, rfl, r2⟩ := par_two (i := i) (j := j) (r.step k1 i1) (dats_dv rv e) (rv.length.trans hl)
  exact ⟨v, w, rfl, k.nx O _ H1 _ (r.lt k1) r2 q⟩
theorem z_par3 {i j l : Nat} {x y z : Str} {a b c : Expr} {ts : TDa} {px py pz pt pos : Pos} {kt k2 pt2} (hc : X.calm = true) (hN : X.N.Nodup) (hi : X.N[i]? = some x) (hj : X.N[j]? = some y) (hl : X.N[l]? = some z) (hij : i ≠ j) (hil : i ≠ l) (hjl : j ≠ l)
    (hx : X.env.scope.names.lookup x = some .local) (hy : X.env.scope.names.lookup y = some .local) (hz : X.env.scope.names.lookup z = some .local) (ha : PR X G [a, b, c] ts)
    (hw : swappedStores [.Tuple [.Name x px, .Name y py, .Name z pz] kt pt] (.Tuple [a, b, c] k2 pt2) X.env = pure (some [x, y, z]))
    (hs : swapsWithSole [.Tuple [.Name x px, .Name y py, .Name z pz] kt pt] (.Tuple [a, b, c] k2 pt2) pos.line X.env = pure false := by rfl) :
    PZ X G (.Assign [.Tuple [.Name x px, .Name y py, .Name z pz] kt pt] (.Tuple [a, b, c] k2 pt2) pos) (zPar [i, j, l] (fun E Q => ts E fun as n => as.length = 3 ∧ Q as n)) := PS.wk (ps_par3 hc hN hi hj hl hij hil hjl hx hy hz ha hw hs) fun D σ H ⟨O, E, Dd, r, k, z⟩ => by
  refine ⟨O, E, _, r, ?_, z⟩
  rintro as n vs H1 k1 i1 rv ⟨hl, q1⟩
  obtain ⟨ds, e, q⟩ := opt_el q1
  have d := dats_dv rv e
  have r2 := rel_sets (G := G) [i, j, l] vs ds σ _ (r.step k1 i1) d
  match vs, rv.length.trans hl with
  | [u, v, w], _ => exact ⟨u, v, w, rfl, k.nx O _ H1 _ (r.lt k1) r2 q⟩
end
end Dl
namespace Dl
open PySem PySem.Spec PyProof.Rows L2 Gd
section
variable {X : Cx} {G : Gx}
/-! ### range(a, b, -1) -/
def downD (lo : Int) (n : Nat) : List PyData := (List.range n).map fun i => .int (lo - (i : Nat))
theorem wk_down {O : Addr → Prop} {H : Hp} (lo : Int) (n : Nat) : Wk O H (Itc lo (-1) n) (downD lo n) := by
  intro O2 H2 _ _ i
  refine ⟨fun d e => ?_, fun h => ?_⟩
  · unfold downD at e
    rw [List.getElem?_map, Option.map_eq_some_iff] at e
    obtain ⟨j, e1, rfl⟩ := e
    have hj : i < n := by
      have := (List.getElem?_eq_some_iff.mp e1).1
      simpa using this
    have : j = i := by
      rw [List.getElem?_range hj] at e1
      exact (Option.some.inj e1).symm
    subst this
    refine ⟨hj, ?_⟩
    rintro x H3 ⟨rfl, rfl⟩
    refine ⟨fun _ _ e => e, ?_⟩
    have : lo + (j : Nat) * (-1 : Int) = lo - (j : Nat) := by omega
    rw [this]
    exact .int _
  · unfold downD at h
    have : n = i := by simpa using h
    exact Nat.le_of_eq this
def iRg3 (t u v : TD) : TId := fun E Q => t E fun d n => u ⟨E.ρ, n⟩ fun e m => v ⟨E.ρ, m⟩ fun c l => match d, e, c with
  | .int i, .int j, .int (-1) => decide (-(2 ^ 62) ≤ i ∧ i < 2 ^ 62 ∧ -(2 ^ 62) ≤ j ∧ j < 2 ^ 62) = true ∧ Q (downD i (i - j).toNat) l
  | _, _, _ => False
theorem j_range3 {tg a b c : Expr} {t u v : TD} {p pos : Pos} (ha : PD X G a t) (hb : PD X G b u) (hc : PD X G c v) (hm : X.mg "range" = none) (hg : Gl X "range" := by rfl) (hs : starEach [a, b, c] X.env = (false, eval a X.env) :: starEach [b, c] X.env := by rfl)
    (hpl : (backTo pos (starEach [b, c] X.env)).any (·.1) = false := by rfl) (hs2 : starEach [b, c] X.env = (false, eval b X.env) :: starEach [c] X.env := by rfl) (hs3 : starEach [c] X.env = (false, eval c X.env) :: starEach [] X.env := by rfl) : PJ X G tg (.Call (.Name "range" p) [a, b, c] [] pos) (iRg3 t u v) :=
  PI.wk (pi_range3 hg hm (pa_cons ha (pa_cons hb (pa_cons hc pa_nil hs3) hs2) hs) hs hpl) fun σ H R ⟨O, E, Qd, r, im, z⟩ => by
    refine ⟨O, E, _, r, ?_, z⟩
    rintro d n x H1 k1 i1 rv q1
    have r1 := r.step k1 i1
    refine ⟨O, _, _, r1, ?_, q1⟩
    rintro d2 m x2 H2 k2 i2 rv2 q2
    have r2 := r1.step k2 i2
    refine ⟨O, _, _, r2, ?_, q2⟩
    rintro d3 l x3 H3 k3 i3 rv3 q3
    split at q3
    · cases rv
      cases rv2
      cases rv3
      obtain ⟨h, q⟩ := q3
      have h' := of_decide_eq_true h
      exact ⟨_, _, _, _, rfl, RgC.neg h'.1 h'.2.1 h'.2.2.1 h'.2.2.2, im _ l _ H3 ((k1.trans k2).trans k3) i3 (wk_down _ _) q⟩
    · exact q3.elim
/-! ### slices -/
abbrev TDo := En → (Option Int → Nat → Prop) → Prop
def lowO (G : Gx) (t : TDo) : TO := fun σ H Q => ∃ (O : Addr → Prop) (E : En) (Qd : Option Int → Nat → Prop), Rel G O σ H E ∧ (∀ o n H', Kp G.F.S H H' → G.F.I n H' → Qd o n → Q o H') ∧ t E Qd
theorem PO.wk {e : Option Expr} {t u : TO} (h : PO X e t) (k : ∀ σ H Q, u σ H Q → t σ H Q) : PO X e u := ⟨fun p s σ H Q I z => h.run p s σ H Q I (k σ H Q z)⟩
def oNon : TDo := fun E Q => Q none E.n
def oSom (t : TD) : TDo := fun E Q => t E fun d n => match d with | .int i => Q (some i) n | _ => False
theorem po_non : PO X none (lowO G oNon) := PO.wk po_none fun σ H Q ⟨O, E, Qd, r, im, z⟩ => im none E.n H (Kp.refl H) r.str z
theorem po_som {e : Expr} {t : TD} (h : PB X G e t) : PO X (some e) (lowO G (oSom t)) := PO.wk (po_some h) fun σ H Q ⟨O, E, Qd, r, im, z⟩ => by
  refine ⟨O, E, _, r, ?_, z⟩
  rintro d n v H1 k1 i1 rv q1
  split at q1
  · exact ⟨_, rv.bw.int, im _ n H1 k1 i1 q1⟩
  · exact q1.elim
def cutD (ds : List PyData) (lo hi : Option Int) : List PyData := (ds.drop (HT.sIx ds.length 0 lo)).take (HT.sIx ds.length ds.length hi - HT.sIx ds.length 0 lo)
theorem cut_dv {O : Addr → Prop} {H : Hp} {vs : List V} {ds : List PyData} (h : DvL O H vs ds) (lo hi : Option Int) : DvL O H (cutV vs lo hi) (cutD ds lo hi) := by
  unfold cutV cutD
  rw [h.length]
  exact (h.dropL _).takeL _
def dSl (g : PyData → Option Int → Option Int → Option PyData) (t : TD) (a b : TDo) : TD := fun E Q => t E fun d n => a ⟨E.ρ, n⟩ fun i m => b ⟨E.ρ, m⟩ fun j l => opt (g d i j) fun z => Q z l
@[irreducible] def gSlT : PyData → Option Int → Option Int → Option PyData
  | .tuple ds, i, j => some (.tuple (cutD ds i j))
  | _, _, _ => none
@[irreducible] def gSlL : PyData → Option Int → Option Int → Option PyData
  | .list ds, i, j => some (.list (cutD ds i j))
  | _, _, _ => none
theorem pd_slT {e : Expr} {lo hi : Option Expr} {t : TD} {a b : TDo} {p2 pos : Pos} (he : PB X G e t) (hl : PO X lo (lowO G a)) (hu : PO X hi (lowO G b)) : PD X G (.Subscript e (.Slice lo hi none p2) pos) (dSl gSlT t a b) := PE.wk (pe_slice sl_tupA he hl hu) fun σ H Q ⟨O, E, Qd, r, im, z⟩ => by
  refine ⟨O, E, _, r, ?_, z⟩
  rintro d n v H1 k1 i1 rv q1
  have r1 := r.step k1 i1
  refine ⟨O, _, _, r1, ?_, q1⟩
  rintro i m H2 k2 i2 q2
  have r2 := r1.step k2 i2
  refine ⟨O, _, _, r2, ?_, q2⟩
  rintro j l H3 k3 i3 q3
  have r3 := r2.step k3 i3
  obtain ⟨w, e, q⟩ := opt_el q3
  unfold gSlT at e
  split at e
  · cases e
    obtain ⟨x, vs, rfl, h1, d1, w1⟩ := ((rv.kp r1 k2 (H1 := H)).kp r2 k3 (H1 := H)).bw.tup
    refine ⟨x, vs, rfl, st_of h1, fun hw => ?_, fun _ p hp => ?_⟩
    · refine im _ l _ H3 ((k1.trans k2).trans k3) i3 ?_ q
      rename_i ds
      rw [d1.length] at hw
      have : cutD ds i j = ds := by
        unfold cutD
        rw [hw.1, hw.2]
        simp
      rw [this]
      exact w1
    · refine nw_tup (Q := Q) r3.al (fun v H' s dv => ?_) hp (cut_dv d1 i j)
      obtain ⟨k4, i4⟩ := r3.fin s
      exact im _ l v H' (((k1.trans k2).trans k3).trans k4) i4 dv q
  · cases e
theorem pl_sl {e : Expr} {lo hi : Option Expr} {t : TD} {a b : TDo} {p2 pos : Pos} (he : PB X G e t) (hl : PO X lo (lowO G a)) (hu : PO X hi (lowO G b)) : PL X G (.Subscript e (.Slice lo hi none p2) pos) (dSl gSlL t a b) := PE.wk (pe_slice sl_list he hl hu) fun σ H Q ⟨O, E, Qd, r, im, z⟩ => by
  refine ⟨O, E, _, r, ?_, z⟩
  rintro d n v H1 k1 i1 rv q1
  have r1 := r.step k1 i1
  refine ⟨O, _, _, r1, ?_, q1⟩
  rintro i m H2 k2 i2 q2
  have r2 := r1.step k2 i2
  refine ⟨O, _, _, r2, ?_, q2⟩
  rintro j l H3 k3 i3 q3
  have r3 := r2.step k3 i3
  obtain ⟨w, e, q⟩ := opt_el q3
  unfold gSlL at e
  split at e
  · cases e
    obtain ⟨x, vs, rfl, h1, d1⟩ := ((rv.kp r1 k2 (H1 := H)).kp r2 k3 (H1 := H)).bw.lst
    refine ⟨x, vs, rfl, sq_of h1, fun p hp => ?_⟩
    refine nw_lst (Q := Q) (O := O) (fun v H' s ⟨a, us, es, e1, e2, e3, e4, e5⟩ => ?_) hp (cut_dv d1 i j)
    obtain ⟨k4, i4⟩ := r3.fin s
    refine im _ l v H' (((k1.trans k2).trans k3).trans k4) i4 ⟨a, us, es, e1, e2, ?_, e4, e5⟩ q
    have kk := (k1.trans k2).trans k3
    cases e0 : H a with
    | none => rfl
    | some u =>
      by_cases qs : G.F.S a
      · exact (G.F.al l H3 a i3 qs e3).elim
      · exact (Stay.ne (kk a u e0 qs) e3).elim
  · cases e
/-! ### list(range(..)) -/
theorem dvl_rg {O : Addr → Prop} {H : Hp} (a b : Int) : DvL O H (rgV a b) (rangeD a (b - a).toNat) := by
  unfold rgV rangeD
  have : ∀ l : List Nat, DvL O H (l.map fun i => V.int (a + (i : Nat))) (l.map fun i => PyData.int (a + (i : Nat))) := by
    intro l
    induction l with
    | nil => exact .nil
    | cons x l ih => exact .cons (.int _) ih
  exact this _
def dRgL (t u : TD) : TD := fun E Q => t E fun d n => u ⟨E.ρ, n⟩ fun e m => match d, e with | .int i, .int j => decide (-(2 ^ 20) ≤ i ∧ i < 2 ^ 20 ∧ -(2 ^ 20) ≤ j ∧ j < 2 ^ 20) = true ∧ Q (.list (rangeD i (j - i).toNat)) m | _, _ => False
theorem pl_listRg2 {a b : Expr} {t u : TD} {p p2 pos pos2 : Pos} (hc : X.calm = true) (ha : PD X G a t) (hb : PD X G b u) (hml : X.mg "list" = none) (hm : X.mg "range" = none) (hgl : Gl X "list" := by rfl) (hg : Gl X "range" := by rfl)
    (na : starEach [a, b] X.env = (false, eval a X.env) :: starEach [b] X.env := by rfl) (nb : starEach [b] X.env = (false, eval b X.env) :: starEach [] X.env := by rfl) (hp : (backTo pos2 (starEach [b] X.env)).any (·.1) = false := by rfl)
    (nc : starEach [.Call (.Name "range" p2) [a, b] [] pos2] X.env = (false, eval (.Call (.Name "range" p2) [a, b] [] pos2) X.env) :: starEach [] X.env := by rfl) :
    PL X G (.Call (.Name "list" p) [.Call (.Name "range" p2) [a, b] [] pos2] [] pos) (dRgL t u) := PE.wk (pe_listRg hc hgl hml (prg_2 hg hm ha hb na nb hp) nc) fun σ H Q ⟨O, E, Qd, r, im, z⟩ => by
  refine ⟨O, E, _, r, ?_, z⟩
  rintro d n v H1 k1 i1 rv q1
  have r1 := r.step k1 i1
  refine ⟨O, _, _, r1, ?_, q1⟩
  rintro d2 m v2 H2 k2 i2 rv2 q2
  have r2 := r1.step k2 i2
  split at q2
  · cases rv
    cases rv2
    obtain ⟨h, q⟩ := q2
    have h' := of_decide_eq_true h
    refine ⟨_, _, rfl, rfl, ⟨by omega, by omega, by omega, by omega, by omega⟩, fun l hl => ?_⟩
    refine nw_lst (Q := Q) (O := O) (fun v H' s ⟨a, us, es, e1, e2, e3, e4, e5⟩ => ?_) hl (dvl_rg _ _)
    obtain ⟨k3, i3⟩ := r2.fin s
    refine im _ m v H' ((k1.trans k2).trans k3) i3 ⟨a, us, es, e1, e2, ?_, e4, e5⟩ q
    have kk := k1.trans k2
    cases e0 : H a with
    | none => rfl
    | some u =>
      by_cases qs : G.F.S a
      · exact (G.F.al m H2 a i2 qs e3).elim
      · exact (Stay.ne (kk a u e0 qs) e3).elim
  · exact q2.elim
/-- a comprehension, by an invariant of what is made -/
theorem lc_I {tg : Tg} {tt : TDt} {te : TD} {ρ0 : List Sl} {Q : PyData → Nat → Prop} (ds : List PyData) (I : Nat → List PyData → Nat → Prop) {n : Nat} (h0 : I 0 [] n)
    (step : ∀ (i : Nat) (d : PyData) (acc : List PyData) (n : Nat) (K : List PyData → Nat → Prop), ds[i]? = some d → I i acc n → (∀ acc' n', I (i + 1) acc' n' → K acc' n') → opt (tg.put d ρ0) fun ρ => tt ⟨ρ, n⟩ fun b m => if b = true then te ⟨ρ, m⟩ fun y k => acc.length < 100000 ∧ K (acc ++ [y]) k else K acc m)
    (fin : ∀ acc n, I ds.length acc n → Q (.list acc) n) : dLcL tg tt te ρ0 Q ds [] n := by
  have key : ∀ (k i : Nat) (acc : List PyData) (n : Nat), i + k = ds.length → I i acc n → dLcL0 tg tt te ρ0 Q (ds.drop i) acc n := by
    intro k
    induction k with
    | zero =>
      intro i acc n hi h
      rw [List.drop_eq_nil_of_le (by omega)]
      have : i = ds.length := by omega
      subst this
      exact fin acc n h
    | succ k ih =>
      intro i acc n hi h
      have hl : i < ds.length := by omega
      rw [List.drop_eq_getElem_cons hl]
      exact step i _ acc n (fun a m => dLcL0 tg tt te ρ0 Q (ds.drop (i + 1)) a m) (List.getElem?_eq_getElem hl) h (fun a m h' => ih (i + 1) a m (by omega) h')
  refine ⟨?_⟩
  simpa using key ds.length 0 [] n (by omega) h0
end
end Dl
namespace Dl
open PySem PySem.Spec PyProof.Rows L2 Gd
theorem ix_map {f : Nat → PyData} {N : Nat} {x : Int} {j : Nat} (e : x = (j : Nat)) (h : j < N) : gIx (.list ((List.range N).map f)) (.int x) = some (f j) := by
  subst e
  show atI ((List.range N).map f) (j : Int) = _
  unfold atI ixN
  rw [if_pos (by omega), if_pos (by simp; omega)]
  show ((List.range N).map f)[(j : Int).toNat]? = _
  rw [Int.toNat_natCast, List.getElem?_map, List.getElem?_range h]
  rfl
theorem gSumL_of {ms : List Int} : gSumL (lstI ms) = some (.int ms.sum) := by
  unfold gSumL gInts
  dsimp only
  rw [intsOf_map]
  rfl
end Dl
namespace Dl
open PySem PySem.Spec PyProof.Rows L2 Gd
theorem for_Z {tg : Tg} {tb : TSd} {D : DEnds} (n : Nat) (I : Nat → En → Prop) {E : En} (h0 : I 0 E)
    (step : ∀ (i : Nat) (E : En) (D' : DEnds), i < n → I i E → (∀ E', I (i + 1) E' → D'.nx E') → (∀ E', I (i + 1) E' → D'.ct E') → D'.bk = D.nx → D'.rt = D.rt → opt (tg.put (.int (i : Nat)) E.ρ) fun ρ => tb D' ⟨ρ, E.n⟩)
    (fin : ∀ E, I n E → D.nx E) : dForL tg tb D (rangeD 0 n) E :=
  for_R 0 n I h0 (fun i E D' hi h a b c e => by rw [Int.zero_add]; exact step i E D' hi h a b c e) fin
theorem downD_length (lo : Int) (n : Nat) : (downD lo n).length = n := by simp [downD]
theorem for_D {tg : Tg} {tb : TSd} {D : DEnds} (lo : Int) (n : Nat) (I : Nat → En → Prop) {E : En} (h0 : I 0 E)
    (step : ∀ (i : Nat) (E : En) (D' : DEnds), i < n → I i E → (∀ E', I (i + 1) E' → D'.nx E') → (∀ E', I (i + 1) E' → D'.ct E') → D'.bk = D.nx → D'.rt = D.rt → opt (tg.put (.int (lo - (i : Nat))) E.ρ) fun ρ => tb D' ⟨ρ, E.n⟩)
    (fin : ∀ E, I n E → D.nx E) : dForL tg tb D (downD lo n) E := by
  refine for_L (downD lo n) I h0 (fun i d E D' hd h a b c e => ?_) (fun E h => fin E (by rw [downD_length] at h; exact h))
  have hi : i < n := by
    have := (List.getElem?_eq_some_iff.mp hd).1
    rwa [downD_length] at this
  have : (downD lo n)[i]? = some (.int (lo - (i : Nat))) := by
    unfold downD
    rw [List.getElem?_map, List.getElem?_range hi]
    rfl
  rw [this] at hd
  cases hd
  exact step i E D' hi h a b c e
theorem lc_Z {tg : Tg} {tt : TDt} {te : TD} {ρ0 : List Sl} {Q : PyData → Nat → Prop} (m : Nat) (p : Nat → Bool) (f : Nat → PyData) {n : Nat}
    (h : ∀ i < m, ∃ ρ, tg.put (.int (i : Nat)) ρ0 = some ρ ∧ (∀ (n : Nat) (R : Bool → Nat → Prop), R (p i) n → tt ⟨ρ, n⟩ R) ∧ (p i = true → ∀ (n : Nat) (R : PyData → Nat → Prop), R (f i) n → te ⟨ρ, n⟩ R)) (hl : m ≤ 100000) (q : Q (.list (((List.range m).filter p).map f)) n) : dLcL tg tt te ρ0 Q (rangeD 0 m) [] n :=
  lc_R 0 m p f (fun i hi => by rw [Int.zero_add]; exact h i hi) hl q
theorem add_tup {a b : List Int} (h : a.length + b.length ≤ 100000) : gAdd (tupI a) (tupI b) = some (tupI (a ++ b)) := by
  show (if small2 (a.map dI) (b.map dI) = true then some (PyData.tuple (a.map dI ++ b.map dI)) else none) = _
  unfold small2
  rw [decide_eq_true (by simpa using h), if_pos rfl, ← List.map_append]
theorem cat_lst {a b : List PyData} (h : a.length + b.length ≤ 100000) : gCatL (.list a) (.list b) = some (.list (a ++ b)) := by
  show (if small2 a b = true then some (PyData.list (a ++ b)) else none) = _
  unfold small2
  rw [decide_eq_true h, if_pos rfl]
theorem cut_take {ms : List Int} {t : Nat} {x : Int} (e : x = (t : Nat)) (h : t ≤ ms.length) : gSlT (tupI ms) none (some x) = some (tupI (ms.take t)) := by
  subst e
  unfold gSlT
  show some (PyData.tuple (cutD (ms.map dI) none (some (t : Int)))) = _
  have : cutD (ms.map dI) none (some (t : Int)) = (ms.take t).map dI := by
    unfold cutD
    rw [HT.sIx_none, HT.sIx_nat, List.length_map, List.drop_zero, Nat.sub_zero, Nat.min_eq_left h, List.map_take]
  rw [this]
end Dl
namespace Dl
open PySem PySem.Spec PyProof.Rows L2 Gd
def tyD : PyData → String
  | .none => "NoneType"
  | .bool _ => "bool"
  | .int _ => "int"
  | .str _ => "str"
  | .list _ => "list"
  | .tuple _ => "tuple"
  | .dict _ => "dict"
def isiD (T : String) (d : PyData) : Bool := tyD d == T || (T == "int" && tyD d == "bool")
section
variable {X : Cx} {G : Gx}
theorem Bw.ty {K : PySem.W.Frag} {O : Addr → Prop} {H : Hp} {v : V} {d : PyData} (h : Bw O H v d) : TyX K H v (.type (tyD d)) := by
  rcases h with h | ⟨a, vs, ds, rfl, rfl, e3, _⟩
  · cases h with
    | non => exact .base .non
    | bl b => exact .base (.bl b)
    | int i => exact .base (.int i)
    | str x => exact .base (.str x)
    | lst e n l f => exact .base (.lst e)
    | tup e n l f => exact .base (.tup e)
    | dct e n p => exact .base (.dK e)
    | dcv e n l f => exact .base (.dK e)
  · exact .base (.lst e3)
def gIsi (T : String) (d : PyData) : Option PyData := some (.bool (isiD T d))
theorem isi_core {T : String} {x : Str} {a : Expr} {ta : TD} {p p2 pos : Pos} (kit : ∀ (K : PySem.W.Frag) (d : PyData), PySem.W.kitOne K (.type (tyD d)) (.type T) = some (isiD T d)) (hT : PE X (.Name x p2) (tC (.ty T))) (ha : PB X G a ta) (hm : X.mg "isinstance" = none) (hg : Gl X "isinstance")
    (hs : starEach [a, .Name x p2] X.env = (false, eval a X.env) :: starEach [.Name x p2] X.env) (hs2 : starEach [.Name x p2] X.env = (false, eval (.Name x p2) X.env) :: starEach [] X.env) (hpl : (backTo pos (starEach [.Name x p2] X.env)).any (·.1) = false) : PD X G (.Call (.Name "isinstance" p) [a, .Name x p2] [] pos) (dUn (gIsi T) ta) :=
  PE.wk (pe_callB call_isi hg hm (by decide +kernel) (pa_cons ha (pa_cons hT pa_nil hs2) hs) (he := hs) (hpl := hpl)) fun σ H Q ⟨O, E, Qd, rl, im, z⟩ => by
    refine ⟨O, E, _, rl, ?_, z⟩
    rintro dx n x H1 k1 i1 rx q1
    obtain ⟨w, e, q⟩ := opt_el q1
    cases e
    exact ⟨x, .ty T, _, _, _, rfl, .ty T, rx.bw.ty, kit _ dx, im _ n _ H1 k1 i1 (.bl _) q⟩
theorem kit_int (K : PySem.W.Frag) (d : PyData) : PySem.W.kitOne K (.type (tyD d)) (.type "int") = some (isiD "int" d) := by cases d <;> rfl
theorem kit_bool (K : PySem.W.Frag) (d : PyData) : PySem.W.kitOne K (.type (tyD d)) (.type "bool") = some (isiD "bool" d) := by cases d <;> rfl
theorem kit_tuple (K : PySem.W.Frag) (d : PyData) : PySem.W.kitOne K (.type (tyD d)) (.type "tuple") = some (isiD "tuple" d) := by cases d <;> rfl
theorem kit_str (K : PySem.W.Frag) (d : PyData) : PySem.W.kitOne K (.type (tyD d)) (.type "str") = some (isiD "str" d) := by cases d <;> rfl
theorem pd_isi_int {a : Expr} {ta : TD} {p p2 pos : Pos} (ha : PB X G a ta) (hm : X.mg "isinstance" = none) (ht : X.mg "int" = none) (hg : Gl X "isinstance" := by rfl) (hgt : Gl X "int" := by rfl) (hs : starEach [a, .Name "int" p2] X.env = (false, eval a X.env) :: starEach [.Name "int" p2] X.env := by rfl)
    (hs2 : starEach [.Name "int" p2] X.env = (false, eval (.Name "int" p2) X.env) :: starEach [] X.env := by rfl) (hpl : (backTo pos (starEach [.Name "int" p2] X.env)).any (·.1) = false := by rfl) : PD X G (.Call (.Name "isinstance" p) [a, .Name "int" p2] [] pos) (dUn (gIsi "int") ta) :=
  isi_core kit_int (pe_bltn (v := .ty "int") hgt ht (by decide +kernel) rfl) ha hm hg hs hs2 hpl
theorem pd_isi_bool {a : Expr} {ta : TD} {p p2 pos : Pos} (ha : PB X G a ta) (hm : X.mg "isinstance" = none) (ht : X.mg "bool" = none) (hg : Gl X "isinstance" := by rfl) (hgt : Gl X "bool" := by rfl) (hs : starEach [a, .Name "bool" p2] X.env = (false, eval a X.env) :: starEach [.Name "bool" p2] X.env := by rfl)
    (hs2 : starEach [.Name "bool" p2] X.env = (false, eval (.Name "bool" p2) X.env) :: starEach [] X.env := by rfl) (hpl : (backTo pos (starEach [.Name "bool" p2] X.env)).any (·.1) = false := by rfl) : PD X G (.Call (.Name "isinstance" p) [a, .Name "bool" p2] [] pos) (dUn (gIsi "bool") ta) :=
  isi_core kit_bool (pe_bltn (v := .ty "bool") hgt ht (by decide +kernel) rfl) ha hm hg hs hs2 hpl
theorem pd_isi_tuple {a : Expr} {ta : TD} {p p2 pos : Pos} (ha : PB X G a ta) (hm : X.mg "isinstance" = none) (ht : X.mg "tuple" = none) (hg : Gl X "isinstance" := by rfl) (hgt : Gl X "tuple" := by rfl) (hs : starEach [a, .Name "tuple" p2] X.env = (false, eval a X.env) :: starEach [.Name "tuple" p2] X.env := by rfl)
    (hs2 : starEach [.Name "tuple" p2] X.env = (false, eval (.Name "tuple" p2) X.env) :: starEach [] X.env := by rfl) (hpl : (backTo pos (starEach [.Name "tuple" p2] X.env)).any (·.1) = false := by rfl) : PD X G (.Call (.Name "isinstance" p) [a, .Name "tuple" p2] [] pos) (dUn (gIsi "tuple") ta) :=
  isi_core kit_tuple (pe_bltn (v := .ty "tuple") hgt ht (by decide +kernel) rfl) ha hm hg hs hs2 hpl
/-- a statement that is never reached -/
theorem z_never {st : Stmt} : PZ X G st (fun _ _ => False) := PS.wk (ps_never) fun D σ H ⟨O, E, Dd, r, k, z⟩ => z
/-- a call as a statement: what it returns is dropped -/
def zDrop (t : TD) : TSd := fun D E => t E fun _ n => D.nx ⟨E.ρ, n⟩
theorem z_drop {e : Expr} {t : TD} {pos : Pos} (he : PD X G e t) (hs : swapsWith e none pos.line X.env = pure false := by rfl) : PZ X G (.Expr e pos) (zDrop t) := PS.wk (ps_expr he hs) fun D σ H ⟨O, E, Dd, r, k, z⟩ => by
  refine ⟨O, E, _, r, ?_, z⟩
  rintro d n v H1 k1 i1 rv q1
  exact k.nx O σ H1 _ (r.lt k1) (r.step k1 i1) q1
end
end Dl
namespace Dl
open PySem PySem.Spec PyProof.Rows L2 Gd
theorem fn_false {P : Program} {w : World} {K : PySem.W.Frag} {mg : Str → Option Value} {base : Heap} {k m : Nat} {f : Addr} {fd : FuncData} {ps : List Str} {C : Con} (hm : m = ps.length) (h : ∀ F as n Q, ¬ C F as n Q) : FnOk P w K mg base CX0 k f fd ps (spD C m) :=
  ⟨fun vs H Q E q => q.1.trans hm, fun A outer s H args us vs Q E _ _ _ _ ⟨_, F, B, as, n, Qd, _, _, _, _, _, c⟩ => (h F as n Qd c).elim⟩
theorem maxN : ∀ (L : List Nat), L ≠ [] → ∃ m ∈ L, ∀ y ∈ L, y ≤ m
  | [], h => (h rfl).elim
  | [a], _ => ⟨a, List.mem_cons_self, fun y hy => by simp at hy; omega⟩
  | a :: b :: r, _ => by
    obtain ⟨m, h1, h2⟩ := maxN (b :: r) (by simp)
    by_cases z : a ≤ m
    · exact ⟨m, List.mem_cons_of_mem _ h1, fun y hy => by rcases List.mem_cons.mp hy with rfl | hy; exact z; exact h2 y hy⟩
    · exact ⟨a, List.mem_cons_self, fun y hy => by rcases List.mem_cons.mp hy with rfl | hy; exact Nat.le_refl _; have := h2 y hy; omega⟩
end Dl
namespace Dl
open PySem PySem.Spec PyProof.Rows L2 Gd
section
variable {X : Cx} {G : Gx}
/-- x, y = a new list, data -/
def zParL (i j : Nat) (tl td : TD) : TSd := fun D E => tl E fun d n => td ⟨E.ρ, n⟩ fun x m => match d with | .list ds => D.nx ⟨(E.ρ.set i (.own ds)).set j (.dat x), m⟩ | _ => False
theorem z_parL {i j : Nat} {x y : Str} {a b : Expr} {tl td : TD} {px py pt pos : Pos} {kt k2 pt2} (hc : X.calm = true) (hN : X.N.Nodup) (hi : X.N[i]? = some x) (hj : X.N[j]? = some y) (hij : i ≠ j)
    (hx : X.env.scope.names.lookup x = some .local) (hy : X.env.scope.names.lookup y = some .local) (ha : PL X G a tl) (hb : PD X G b td)
    (hw : swappedStores [.Tuple [.Name x px, .Name y py] kt pt] (.Tuple [a, b] k2 pt2) X.env = pure (some [x, y]))
    (hs : swapsWithSole [.Tuple [.Name x px, .Name y py] kt pt] (.Tuple [a, b] k2 pt2) pos.line X.env = pure false := by rfl) (hs1 : starEach [a, b] X.env = (false, eval a X.env) :: starEach [b] X.env := by rfl) (hs2 : starEach [b] X.env = (false, eval b X.env) :: starEach [] X.env := by rfl) :
    PZ X G (.Assign [.Tuple [.Name x px, .Name y py] kt pt] (.Tuple [a, b] k2 pt2) pos) (zParL i j tl td) := PS.wk (ps_par hc hN hi hj hij hx hy (pa_cons ha (pa_cons hb pa_nil hs2) hs1) hw hs) fun D σ H ⟨O, E, Dd, r, k, z⟩ => by
  refine ⟨O, E, _, r, ?_, z⟩
  rintro d n v H1 k1 i1 ⟨a, vs, ds, rfl, rfl, e3, e4, e5⟩ q1
  have r1 := r.step k1 i1
  have nO : ¬ O a := fun y => r.al a y e3
  have nS : ¬ G.F.S a := fun y => nO (r.sO a y)
  have hs0 : G.Hs a = none := by
    cases e0 : G.Hs a with
    | none => rfl
    | some u =>
      by_cases qs : G.F.S a
      · exact (nS qs).elim
      · exact (Stay.ne (r.kp a u e0 qs) e3).elim
  have L1 : Later O H (fun x => O x ∨ x = a) H1 := ⟨fun x y => y.elim .inl fun y => .inr (y ▸ e3), fun x u y ny => (r.lt k1).h x u y ny⟩
  have r2 : Rel G (fun x => O x ∨ x = a) σ H1 ⟨E.ρ, n⟩ := by
    refine ⟨r1.len, fun j d e => ?_, fun j es e => ?_, r1.dif, r1.con, i1, fun x y => .inl (r1.bo x y), fun x y => y.elim (r1.on x) fun y => y ▸ r.free e3, r1.aB.or e4 rfl, r1.kp, r.od.mv (fun _ _ z => Dv.later L1 z) fun _ _ b o _ _ e ob sb nl => ⟨(k1 _ _ e (fun y => G.hb b (G.sb b y) sb)).eq nl.2, .inl ob⟩⟩
    · obtain ⟨v, y1, y2⟩ := r.dat j d e
      exact ⟨v, y1, Dv.later L1 y2⟩
    · obtain ⟨b, ws, y1, y2, y3, y4, y5⟩ := r.own j es e
      exact ⟨b, ws, y1, k1 _ _ y2 (fun y => G.hb b (G.sb b y) y4), .inl y3, y4, y5.later L1⟩
  refine ⟨_, _, _, r2, ?_, q1⟩
  rintro x m v2 H2 k2 i2 rv2 q2
  have r3 := r2.step k2 i2
  have e4' := k2 _ _ e4 nS
  have e5' := e5.later (r2.lt k2)
  refine ⟨_, _, rfl, k.nx _ _ H2 _ (L1.trans (r2.lt k2)) ((r3.setOwn e4' hs0 (.inr rfl) e5' fun j dj nj ej y => ?_).set rv2) q2⟩
  obtain ⟨b, ws, y1, y2, y3, _⟩ := r.own j dj ej
  rw [y] at y1
  cases y1
  exact nO y3
theorem ixN_nat {n k : Nat} {x : Int} (e : x = (k : Nat)) (h : k < n) : ixN n x = some k := by
  subst e
  unfold ixN
  rw [if_pos (by omega), if_pos (by omega), Int.toNat_natCast]
end
end Dl
namespace Dl
open PySem PySem.Spec PyProof.Rows L2 Gd
section
variable {X : Cx} {G : Gx}
def rSetTup (K : PySem.W.Frag) (w : World) : List V → Hp → VK → Prop := fun xs H Q => ∃ (a : Addr) (ns : List Int), xs = [.ref a] ∧ SqT K H a (ns.map V.int) ∧ ns.length < 60 ∧ ∀ p c, c ≤ ns.length → H p = none → Q (.ref p) (upd H p (SetO w p (fun j => decide (j ∈ ns)) c))
theorem cr_setTup (hc : X.calm = true) : CallR X (.type "set") (rSetTup X.K X.w) := by
  intro pins s σ H xs us Q I r h
  obtain ⟨a, ns, rfl, hs, hb, q⟩ := h
  rw [Vals.ref1 r]
  obtain ⟨its, rv, p, hz⟩ := I.tuple hs
  refine call_set_tupI ns (I.ok.hd hc) (show s.heap.IsTuple a its.toArray from p) (by simpa using intsAre_of rv) (Nat.lt_of_lt_of_le (by omega : ns.length + 1 < 64) (by decide)) fun h' tk c R hc' keep => ?_
  exact ⟨.ref _, upd H s.heap.objs.size (SetO X.w s.heap.objs.size (fun j => decide (j ∈ ns)) c), I.laid (t' := tk) keep (Nat.le_refl _) (setO_new R), rfl, q _ c hc' (I.hok.fresh (Nat.le_refl _))⟩
/-- sorted(set(t)), t a tuple of whole numbers: some list of them, ascending -/
def dSS (t : TD) : TD := fun E Q => t E fun d n => match d with
  | .tuple ds => opt (intsOf ds) fun ns => ns.length < 60 ∧ ∀ ms : List Int, ms.Pairwise (· < ·) → (∀ k, k ∈ ms ↔ k ∈ ns) → ms.length ≤ ns.length → Q (lstI ms) n
  | _ => False
theorem pl_sortedSet {e : Expr} {t : TD} {p p2 pos pos2 : Pos} (hc : X.calm = true) (he : PB X G e t) (hm : X.mg "sorted" = none) (hm2 : X.mg "set" = none) (hg : Gl X "sorted" := by rfl) (hg2 : Gl X "set" := by rfl)
    (hs : starEach [e] X.env = (false, eval e X.env) :: starEach [] X.env := by rfl) (hs2 : starEach [.Call (.Name "set" p2) [e] [] pos2] X.env = (false, eval (.Call (.Name "set" p2) [e] [] pos2) X.env) :: starEach [] X.env := by rfl) :
    PL X G (.Call (.Name "sorted" p) [.Call (.Name "set" p2) [e] [] pos2] [] pos) (dSS t) :=
  PE.wk (pe_callB (cr_sortedSet hc) hg hm (by decide +kernel) (pa_cons (pe_callTy (cr_setTup hc) hg2 hm2 (by decide +kernel) (pa_cons he pa_nil hs) (he := hs)) pa_nil hs2) (he := hs2)) fun σ H Q ⟨O, E, Qd, r, im, z⟩ => by
    refine ⟨O, E, _, r, ?_, z⟩
    rintro d n v H1 k1 i1 rv q1
    have r1 := r.step k1 i1
    split at q1
    · obtain ⟨ns, e1, hl, q⟩ := opt_el q1
      obtain ⟨a, vs, rfl, h1, d1, _⟩ := rv.bw.tup
      have := ints_dv d1 e1
      subst this
      refine ⟨a, ns, rfl, st_of h1, hl, fun p c hcl hp => ?_⟩
      refine ⟨p, _, c, rfl, upd_same, by omega, fun ms p5 pw mem len hp5 => ?_⟩
      have s2 := same_upd' (o := SetO X.w p (fun j => decide (j ∈ ns)) c) hp
      have s3 := same_upd' (o := .lst (ms.map V.int)) hp5
      have dv : DvL (fun x => O x ∨ x = p5) (upd (upd H1 p (SetO X.w p (fun j => decide (j ∈ ns)) c)) p5 (.lst (ms.map V.int))) (ms.map V.int) (ms.map dI) := by
        have : ∀ l : List Int, DvL (fun x => O x ∨ x = p5) (upd (upd H1 p (SetO X.w p (fun j => decide (j ∈ ns)) c)) p5 (.lst (ms.map V.int))) (l.map V.int) (l.map dI) := by
          intro l
          induction l with
          | nil => exact .nil
          | cons x l ih => exact .cons (.int x) ih
        exact this ms
      have ss : Same H1 (upd (upd H1 p (SetO X.w p (fun j => decide (j ∈ ns)) c)) p5 (.lst (ms.map V.int))) := fun b o e => s3 b o (s2 b o e)
      obtain ⟨k3, i3⟩ := r1.fin ss
      refine im _ n _ _ (k1.trans k3) i3 ⟨p5, _, _, rfl, rfl, ?_, upd_same, dv⟩ (q ms pw (fun k => by rw [mem k]; exact decide_eq_true_iff) (by omega))
      have h15 : H1 p5 = none := by
        by_cases c5 : p5 = p
        · rw [c5]; exact hp
        · rw [upd_ne c5] at hp5
          exact hp5
      cases e0 : H p5 with
      | none => rfl
      | some u =>
        by_cases qs : G.F.S p5
        · exact (G.F.al n H1 p5 i1 qs h15).elim
        · exact (Stay.ne (k1 p5 u e0 qs) h15).elim
    · exact q1.elim
/-- xs.index(k), whole numbers -/
def gIdx : PyData → PyData → Option PyData
  | .list ds, .int k => (intsOf ds).bind fun ns => if k ∈ ns then some (.int (ns.idxOf k : Nat)) else none
  | _, _ => none
def dIdx (ta tb : TD) : TD := fun E Q => ta E fun x n => match x with | .list ds => tb ⟨E.ρ, n⟩ fun y m => opt (gIdx (.list ds) y) fun z => Q z m | _ => False
theorem eqV_int {i j : Int} : eqV (.int i) (.int j) = decide (i = j) := by
  unfold eqV
  by_cases h : i = j <;> simp [h]
theorem pd_index {o e : Expr} {ta tb : TD} {apos cpos : Pos} (ho : PB X G o ta) (he : PB X G e tb) (hbase : attributeBase o "index" X.env (eval o X.env) = eval o X.env := by rfl)
    (hfew : ((backTo cpos (starEach [e] X.env)).all (fun x => !x.1) && (backToKw cpos (keywordEach [] X.env)).all (fun x => x.1.isSome) && decide (([e] : List Expr).length + ([] : List Keyword).length + (if ([] : List Keyword).isEmpty then 0 else 1) < 30)) = true := by rfl)
    (hline : (apos.endLine == cpos.line) = true := by rfl) (hst : starEach [e] X.env = (false, eval e X.env) :: starEach [] X.env := by rfl) : PD X G (.Call (.Attribute o "index" apos) [e] [] cpos) (dIdx ta tb) :=
  PE.wk (pe_bm PySem.F.plainAttrs_list PySem.F.slot_list_index PySem.F.type_list_index mt_index ho (pa_cons he pa_nil hst) hbase hfew hline hst) fun σ H Q ⟨O, E, Qd, r, im, z⟩ => by
    refine ⟨O, E, _, r, ?_, z⟩
    rintro dx n x H1 k1 i1 rx q1
    have r1 := r.step k1 i1
    split at q1
    · rename_i ds
      obtain ⟨a, vs, rfl, h1, d1⟩ := rx.bw.lst
      refine ⟨.inl ⟨rfl, _, sq_of h1⟩, O, _, _, r1, ?_, q1⟩
      rintro dy m y H2 k2 i2 ry q2
      obtain ⟨w, e1, q⟩ := opt_el q2
      obtain ⟨a', vs', ea, h2, d2⟩ := (rx.kp r1 k2 (H1 := H)).bw.lst
      cases ea
      unfold gIdx at e1
      split at e1
      · rename_i ds' k heq
        cases heq
        cases ry.bw.int
        cases e2 : intsOf ds with
        | none => rw [e2] at e1; cases e1
        | some ns =>
          rw [e2] at e1
          have ev := ints_dv d2 e2
          subst ev
          have e3 : (if k ∈ ns then some (PyData.int (ns.idxOf k : Nat)) else none) = some w := e1
          split at e3
          · rename_i hk
            cases e3
            have hlt : ns.idxOf k < ns.length := List.idxOf_lt_length_of_mem hk
            refine ⟨a, _, .int k, ns.idxOf k, .int k, rfl, rfl, sq_of h2, rfl, ?_, ?_, ?_, fun j z' hj hz => ?_, im _ m _ H2 (k1.trans k2) i2 (.int _) q⟩
            · rw [List.all_eq_true]
              intro x hx
              obtain ⟨i, _, rfl⟩ := List.mem_map.mp hx
              rfl
            · rw [List.getElem?_map, List.getElem?_eq_getElem hlt, List.getElem_idxOf hlt]
              rfl
            · rw [eqV_int]
              exact decide_eq_true rfl
            · have hjl : j < ns.length := by omega
              rw [List.getElem?_map, List.getElem?_eq_getElem hjl] at hz
              cases hz
              rw [eqV_int]
              refine decide_eq_false fun e => ?_
              have := List.not_of_lt_findIdx (p := (· == k)) (xs := ns) (i := j) hj
              simp [e] at this
          · cases e3
      · cases e1
    · exact q1.elim
end
end Dl
namespace Dl
open PySem PySem.Spec PyProof.Rows L2 Gd
section
variable {X : Cx} {G : Gx}
def enumFrom (k : Nat) : List PyData → List PyData
  | [] => []
  | d :: ds => .tuple [.int (k : Nat), d] :: enumFrom (k + 1) ds
def enumD (ds : List PyData) : List PyData := enumFrom 0 ds
theorem enumFrom_length : ∀ (ds : List PyData) (k : Nat), (enumFrom k ds).length = ds.length
  | [], _ => rfl
  | _ :: ds, k => by show (enumFrom (k + 1) ds).length + 1 = ds.length + 1; rw [enumFrom_length ds]
theorem enumFrom_get : ∀ (ds : List PyData) (k i : Nat), (enumFrom k ds)[i]? = (ds[i]?).map fun d => .tuple [.int ((k + i : Nat) : Int), d]
  | [], _, i => by simp [enumFrom]
  | d :: ds, k, 0 => rfl
  | d :: ds, k, i + 1 => by
    show (enumFrom (k + 1) ds)[i]? = (ds[i]?).map _
    rw [enumFrom_get ds (k + 1) i]
    have : k + 1 + i = k + (i + 1) := by omega
    rw [this]
theorem enumD_get (ds : List PyData) (i : Nat) : (enumD ds)[i]? = (ds[i]?).map fun d => .tuple [.int (i : Nat), d] := by
  unfold enumD
  rw [enumFrom_get, Nat.zero_add]
theorem wk_enumL {K : PySem.W.Frag} {O : Addr → Prop} {H : Hp} {a : Addr} {vs : List V} {ds : List PyData} (h : H a = some (.lst vs)) (n : ¬ O a) (d : DvL O H vs ds) : Wk O H (Ite K a) (enumD ds) := by
  intro O2 H2 L al i
  have e := L.h a _ h n
  have d2 := d.later L
  refine ⟨fun x ex => ?_, fun hl => ⟨vs, sq_of e, by rw [d.length]; unfold enumD at hl; rw [enumFrom_length] at hl; exact Nat.le_of_eq hl⟩⟩
  rw [enumD_get, Option.map_eq_some_iff] at ex
  obtain ⟨y, ey, rfl⟩ := ex
  obtain ⟨v, e1, e2⟩ := d2.get ey
  refine ⟨⟨vs, v, sq_of e, e1⟩, ?_⟩
  rintro z H3 ⟨T, x, rfl, hT, rfl, hx⟩
  have := hx vs (sq_of e)
  rw [e1] at this
  cases this
  exact ⟨same_upd' hT, Dv.mkT upd_same (fun q => al T q hT) (.cons (.int _) (.cons (Dv.later (later_new hT) e2) .nil))⟩
theorem wk_enumT {K : PySem.W.Frag} {O : Addr → Prop} {H : Hp} {a : Addr} {vs : List V} {ds : List PyData} (h : H a = some (.tup vs)) (n : ¬ O a) (d : DvL O H vs ds) : Wk O H (ItT K a) (enumD ds) := by
  intro O2 H2 L al i
  have e := L.h a _ h n
  have d2 := d.later L
  refine ⟨fun x ex => ?_, fun hl => ⟨vs, st_of e, by rw [d.length]; unfold enumD at hl; rw [enumFrom_length] at hl; exact hl⟩⟩
  rw [enumD_get, Option.map_eq_some_iff] at ex
  obtain ⟨y, ey, rfl⟩ := ex
  obtain ⟨v, e1, e2⟩ := d2.get ey
  refine ⟨⟨vs, v, st_of e, e1⟩, ?_⟩
  rintro z H3 ⟨T, x, rfl, hT, rfl, hx⟩
  have := hx vs (st_of e)
  rw [e1] at this
  cases this
  exact ⟨same_upd' hT, Dv.mkT upd_same (fun q => al T q hT) (.cons (.int _) (.cons (Dv.later (later_new hT) e2) .nil))⟩
def iEnL (t : TD) : TId := fun E Q => t E fun d n => match d with | .list ds => Q (enumD ds) n | _ => False
def iEnT (t : TD) : TId := fun E Q => t E fun d n => match d with | .tuple ds => Q (enumD ds) n | _ => False
theorem j_enumL {e : Expr} {t : TD} {p pos tpos : Pos} {elts : List Expr} {kk : Nat} (h : PD X G e t) (hm : X.mg "enumerate" = none) (hg : Gl X "enumerate" := by rfl) (hs : starEach [e] X.env = [(false, eval e X.env)] := by rfl) (hs' : starEach [e] X.env = (false, eval e X.env) :: starEach [] X.env := by rfl) :
    PJ X G (.Tuple elts kk tpos) (.Call (.Name "enumerate" p) [e] [] pos) (iEnL t) := PI.wk (pi_enum hg hm (pa_cons h pa_nil hs') hs) fun σ H R ⟨O, E, Qd, r, im, z⟩ => by
  refine ⟨O, E, _, r, ?_, z⟩
  rintro d n v H1 k1 i1 rv q1
  split at q1
  · obtain ⟨a, vs, rfl, h1, h2, h3⟩ := Dv.unL rv
    exact ⟨a, vs, rfl, sq_of h1, im _ n _ H1 k1 i1 (wk_enumL h1 h2 h3) q1⟩
  · exact q1.elim
theorem j_enumT {e : Expr} {t : TD} {p pos tpos : Pos} {elts : List Expr} {kk : Nat} (h : PD X G e t) (hm : X.mg "enumerate" = none) (hg : Gl X "enumerate" := by rfl) (hs : starEach [e] X.env = [(false, eval e X.env)] := by rfl) (hs' : starEach [e] X.env = (false, eval e X.env) :: starEach [] X.env := by rfl) :
    PJ X G (.Tuple elts kk tpos) (.Call (.Name "enumerate" p) [e] [] pos) (iEnT t) := PI.wk (pi_enumT hg hm (pa_cons h pa_nil hs') hs) fun σ H R ⟨O, E, Qd, r, im, z⟩ => by
  refine ⟨O, E, _, r, ?_, z⟩
  rintro d n v H1 k1 i1 rv q1
  split at q1
  · obtain ⟨a, vs, rfl, h1, h2, h3⟩ := Dv.unT rv
    exact ⟨a, vs, rfl, st_of h1, im _ n _ H1 k1 i1 (wk_enumT h1 h2 h3) q1⟩
  · exact q1.elim
end
end Dl
/-! Defs that raise own errors, read over data. -/
namespace Dl
open PySem PySem.Spec PyProof.Rows L2 Gd
abbrev Fs := List (Str × PyData)
/-- what the own dict of an error holds -/
def XdR (O : Addr → Prop) (H : Hp) (d : Option Addr) (fs : Fs) : Prop := match fs with
  | [] => d = none
  | [(f, x)] => ∃ dd v, d = some dd ∧ H dd = some (.xd [(f, v)]) ∧ ¬ O dd ∧ Dv O H v x
  | _ => False
theorem XdR.less {O O' : Addr → Prop} {H : Hp} {d : Option Addr} {fs : Fs} (k : ∀ b, O' b → O b) (h : XdR O H d fs) : XdR O' H d fs := by
  match fs, h with
  | [], h => exact h
  | [(f, x)], ⟨dd, v, e1, e2, e3, e4⟩ => exact ⟨dd, v, e1, e2, fun z => e3 (k _ z), Dv.less' k e4⟩
abbrev WeD := Addr → Fs → En → Prop
abbrev TSx := WeD → TSd
abbrev TDx := En → (PyData → Nat → Prop) → WeD → Prop
section
variable (G : Gx) (W : WX)
def LkX (O : Addr → Prop) (H : Hp) (We : WeD) : Prop := ∀ O' σ' H' E' c d fs, Later O H O' H' → Rel G O' σ' H' E' → XdR O' H' d fs → We c fs E' → W (.ref c) d σ' H'
def lowSX (t : TSx) : TS := fun D σ H => ∃ (O : Addr → Prop) (E : En) (Dd : DEnds) (We : WeD), Rel G O σ H E ∧ Lk G O H D Dd ∧ LkX G W O H We ∧ t We Dd E
def lowX (R : RR) (t : TDx) : TE := fun σ H Q => ∃ (O : Addr → Prop) (E : En) (Qd : PyData → Nat → Prop) (We : WeD), Rel G O σ H E ∧ (∀ d n v H', Kp G.F.S H H' → G.F.I n H' → R O H H' v d → Qd d n → Q v H') ∧ LkX G W O H We ∧ t E Qd We
end
theorem LkX.later {G : Gx} {W : WX} {O O1 : Addr → Prop} {H H1 : Hp} {We : WeD} (k : LkX G W O H We) (L : Later O H O1 H1) : LkX G W O1 H1 We :=
  fun O' σ' H' E' c d fs l => k O' σ' H' E' c d fs (L.trans l)
section
variable {X : Cx} {G : Gx} {W : WX}
abbrev PZX (X : Cx) (G : Gx) (W : WX) (st : Stmt) (t : TSx) : Prop := PS X st (lowSX G W t)
abbrev PZXs (X : Cx) (G : Gx) (W : WX) (st : List Stmt) (t : TSx) : Prop := PSs X st (lowSX G W t)
abbrev PXX (X : Cx) (G : Gx) (W : WX) (e : Expr) (t : TDx) : Prop := PE X e (lowX G W RD t)
def xPl (t : TSd) : TSx := fun _ => t
theorem zx_of {st : Stmt} {t : TSd} (h : PZ X G st t) : PZX X G W st (xPl t) := PS.wk h fun D σ H ⟨O, E, Dd, We, r, k, _, z⟩ => ⟨O, E, Dd, r, k, z⟩
theorem zxs_of {st : List Stmt} {t : TSd} (h : PZs X G st t) : PZXs X G W st (xPl t) := PSs.wk h fun D σ H ⟨O, E, Dd, We, r, k, _, z⟩ => ⟨O, E, Dd, r, k, z⟩
theorem zxs_nox {st : List Stmt} {t : TSd} (h : PZs X.nox G st t) : PZXs X G W st (xPl t) := zxs_of h.nox
def xSeq (t u : TSx) : TSx := fun We D E => t We { D with nx := u We D } E
theorem zxs_cons {st : Stmt} {rest : List Stmt} {t u : TSx} (h1 : PZX X G W st t) (h2 : PZXs X G W rest u) : PZXs X G W (st :: rest) (xSeq t u) := PSs.wk (pss_cons h1 h2) fun D σ H ⟨O, E, Dd, We, r, k, kx, z⟩ =>
  ⟨O, E, { Dd with nx := u We Dd }, We, r, ⟨fun O' σ' H' E' l r' q => ⟨O', E', Dd, We, r', k.later l, kx.later l, q⟩, k.rt, k.bk, k.ct⟩, kx, z⟩
theorem zxs_one {st : Stmt} {t : TSx} (h1 : PZX X G W st t) : PZXs X G W [st] t := pss_one h1
def xIf (tt : TDt) (t u : TSx) : TSx := fun We D E => tt E fun b n => if b = true then t We D ⟨E.ρ, n⟩ else u We D ⟨E.ρ, n⟩
theorem zx_if {c : Expr} {a b : List Stmt} {tt : TDt} {t u : TSx} {pos : Pos} (hc : PQ X G c tt) (ha : PZXs X G W a t) (hb : PZXs X G W b u) : PZX X G W (.If c a b pos) (xIf tt t u) := PS.wk (ps_if hc ha hb) fun D σ H ⟨O, E, Dd, We, r, k, kx, z⟩ => by
  refine ⟨O, E, _, r, ?_, z⟩
  rintro b n H1 k1 i1 q1
  have r1 := r.step k1 i1
  cases b with
  | true =>
    refine iteT ?_
    rw [if_pos rfl] at q1
    exact ⟨O, _, Dd, We, r1, k.later (r.lt k1), kx.later (r.lt k1), q1⟩
  | false =>
    refine iteF ?_
    rw [if_neg (by decide)] at q1
    exact ⟨O, _, Dd, We, r1, k.later (r.lt k1), kx.later (r.lt k1), q1⟩
def xFrz (i : Nat) (t : TSx) : TSx := fun We D E => match E.ρ[i]? with | some (.own ds) => t We D ⟨E.ρ.set i (.dat (.list ds)), E.n⟩ | _ => t We D E
theorem zx_frz (i : Nat) {st : Stmt} {t : TSx} (h : PZX X G W st t) : PZX X G W st (xFrz i t) := PS.wk h fun D σ H ⟨O, E, Dd, We, r, k, kx, z⟩ => by
  unfold xFrz at z
  split at z
  · rename_i ds e
    obtain ⟨a, vs, O', _, _, _, _, y5, y6, _⟩ := r.freeze e
    exact ⟨O', _, Dd, We, y5, k.later y6, kx.later y6, z⟩
  · exact ⟨O, E, Dd, We, r, k, kx, z⟩
def xFor (it : TId) (tg : Tg) (tb : TSx) : TSx := fun We D E => it E fun ds n => dForL tg (tb We) D ds ⟨E.ρ, n⟩
theorem zx_for {target iter : Expr} {body : List Stmt} {it : TId} {tg : Tg} {tb : TSx} {pos : Pos} (hp : PassesOwn (model X.prog X.w) X.A X.env X.xe) (hc : X.calm = true) (hi : PJ X G target iter it) (hg : PG X target (tg.g X.K)) (hb : PZXs X G W body tb) (hs : ∀ x, foldedSetIterable iter X.env x = pure x := by intro _; rfl) :
    PZX X G W (.For target iter body [] pos) (xFor it tg tb) := PS.wk (ps_for hp hc hi hg hb hs) fun D σ H ⟨O, E, Dd, We, r, k, kx, z⟩ => by
  refine ⟨O, E, _, r, ?_, z⟩
  rintro ds n J H1 k1 i1 wk q1
  replace q1 := q1.h
  have r1 := r.step k1 i1
  have L1 := r.lt k1
  refine ⟨fun i m σ2 H2 => m = ds.length - i ∧ i ≤ ds.length ∧ ∃ O2 E2, Later O H1 O2 H2 ∧ Rel G O2 σ2 H2 E2 ∧ dForL0 tg (tb We) Dd (ds.drop i) E2, ⟨ds.length, rfl, Nat.zero_le _, O, _, Later.refl _ _, r1, by simpa using q1⟩, ?_⟩
  rintro i m σ2 H2 ⟨rfl, hle, O2, E2, L2, r2, q2⟩
  by_cases hl : i < ds.length
  · obtain ⟨g1, g2⟩ := (wk O2 H2 L2 r2.al i).1 ds[i] (List.getElem?_eq_getElem hl)
    rw [List.drop_eq_getElem_cons hl] at q2
    obtain ⟨ρ, e, q3⟩ := opt_el q2
    refine .inr ⟨g1, fun σ' H' => ∃ O3 E3, Later O H1 O3 H' ∧ Rel G O3 σ' H' E3 ∧ dForL0 tg (tb We) Dd (ds.drop (i + 1)) E3, fun σ' H' q => ⟨ds.length - (i + 1), by omega, rfl, by omega, q⟩, fun x H3 y => ?_⟩
    obtain ⟨s3, dx⟩ := g2 x H3 y
    obtain ⟨k3, i3⟩ := r2.fin s3
    have r3 := r2.step k3 i3
    have L3 := L2.trans (r2.lt k3)
    refine Tg.ok tg r3 dx e fun σ' r' _ => ⟨O2, _, { Dd with nx := dForL0 tg (tb We) Dd (ds.drop (i + 1)), ct := dForL0 tg (tb We) Dd (ds.drop (i + 1)), bk := Dd.nx }, We, r', ⟨fun O' σ' H' E' l rr q => ⟨O', E', L3.trans l, rr, q⟩, k.rt, fun O' σ' H' E' l rr q => k.nx O' σ' H' E' ((L1.trans L3).trans l) rr q, fun O' σ' H' E' l rr q => ⟨O', E', L3.trans l, rr, q⟩⟩, kx.later (L1.trans L3), q3⟩
  · refine .inl ⟨(wk O2 H2 L2 r2.al i).2 (by omega), ?_⟩
    rw [List.drop_eq_nil_of_le (by omega)] at q2
    exact k.nx O2 σ2 H2 E2 (L1.trans L2) r2 q2
/-! ### statements about a call that may raise -/
def xDrop (t : TDx) : TSx := fun We D E => t E (fun _ n => D.nx ⟨E.ρ, n⟩) We
theorem zx_drop {e : Expr} {t : TDx} {pos : Pos} (he : PXX X G W e t) (hs : swapsWith e none pos.line X.env = pure false := by rfl) : PZX X G W (.Expr e pos) (xDrop t) := PS.wk (ps_expr he hs) fun D σ H ⟨O, E, Dd, We, r, k, kx, z⟩ => by
  refine ⟨O, E, _, We, r, ?_, kx, z⟩
  rintro d n v H1 k1 i1 rv q1
  exact k.nx O σ H1 _ (r.lt k1) (r.step k1 i1) q1
def xRet (t : TDx) : TSx := fun We D E => t E D.rt We
theorem zx_ret {e : Expr} {t : TDx} {pos : Pos} (he : PXX X G W e t) : PZX X G W (.Return (some e) pos) (xRet t) := PS.wk (ps_ret he) fun D σ H ⟨O, E, Dd, We, r, k, kx, z⟩ => by
  refine ⟨O, E, _, We, r, ?_, kx, z⟩
  rintro d n v H1 k1 i1 rv q1
  exact k.rt v H1 d n (r.step k1 i1).kp i1 (Dv.less' r.bo rv) q1
def xSet (i : Nat) (t : TDx) : TSx := fun We D E => t E (fun d n => D.nx ⟨E.ρ.set i (.dat d), n⟩) We
theorem zx_set {i : Nat} {x : Str} {e : Expr} {t : TDx} {pos pos' : Pos} (hN : X.N.Nodup) (hi : X.N[i]? = some x) (hx : Loc X.env.scope x) (he : PXX X G W e t) (hs : swapsWith e (some (.Name x pos')) pos.line X.env = pure false := by rfl) (hf : X.fn x = true ∨ X.env.scope.names.lookup x = some .local := by first | exact .inl rfl | exact .inr rfl | assumption) :
    PZX X G W (.Assign [.Name x pos'] e pos) (xSet i t) := PS.wk (ps_set hN hi hx he hs hf) fun D σ H ⟨O, E, Dd, We, r, k, kx, z⟩ => by
  refine ⟨O, E, _, We, r, ?_, kx, z⟩
  rintro d n v H1 k1 i1 rv q1
  exact k.nx O _ H1 _ (r.lt k1) ((r.step k1 i1).set rv) q1
/-! ### the promise of a def that may raise -/
abbrev ConX := Fr → List Ar → Nat → (PyData → Nat → Prop) → (Addr → Fs → Nat → Prop) → Prop
def spDX (C : ConX) (m : Nat) : Sp := fun vs H Q E => vs.length = m ∧ ∃ (F : Fr) (B : Addr → Prop) (as : List Ar) (n : Nat) (Qd : PyData → Nat → Prop) (Qe : Addr → Fs → Nat → Prop), (∀ x, F.S x → B x) ∧ Hb B H ∧ Paired (ArR B H) vs as ∧ F.I n H ∧
  (∀ d n v H', Kp F.S H H' → F.I n H' → Dv B H' v d → Qd d n → Q v H') ∧ (∀ c fs n d H', Kp F.S H H' → F.I n H' → XdR B H' d fs → Qe c fs n → E (.ref c) d H') ∧ C F as n Qd Qe
def dCallX (F : Fr) (C : ConX) (m : Nat) (ts : TDa) : TDx := fun E Q We => ts E fun as n => as.length = m ∧ C F as n Q (fun c fs n' => We c fs ⟨E.ρ, n'⟩)
theorem px_call {k m : Nat} {f : Addr} {fd : FuncData} {ps : List Str} {C : ConX} {x : Str} {p pos : Pos} {e : Expr} {es : List Expr} {ts : TDa} (tk : Takes X W) (F : FnOk X.prog X.w X.K X.mg X.base (L2.CX X.prog X.w) k f fd ps (spDX C m)) (hr : Room k X.A) (hm : X.mg x = some (.ref f)) (hk : PySem.W.keepIn X.K (.ref f) = true) (hb : Binds X.K fd ps [])
    (ha : PR X G (e :: es) ts) (hg : Gl X x := by rfl) (hdb : (x == ("__debug__" : Str)) = false := by decide) (he : starEach (e :: es) X.env = (false, eval e X.env) :: starEach es X.env := by rfl) (hpl : (backTo pos (starEach es X.env)).any (·.1) = false := by rfl) :
    PXX X G W (.Call (.Name x p) (e :: es) [] pos) (dCallX G.F C m ts) := PE.wk (pe_callS F hr hg hm hk hb (fun σ => passAt tk σ) ha hdb he hpl) fun σ H Q ⟨O, E, Qd, We, r, im, kx, z⟩ => by
  refine ⟨O, E, _, r, ?_, z⟩
  rintro as n vs H1 k1 i1 rv ⟨q0, q1⟩
  have r1 := r.step k1 i1
  refine ⟨rv.length.trans q0, G.F, O, as, n, _, _, r.sO, r1.aB, rv, i1, fun d n' v H' k2 i2 dv q2 => im d n' v H' (k1.trans k2) i2 dv q2, fun c fs n' d H' k2 i2 xd q2 => ?_, q1⟩
  exact kx O σ H' ⟨E.ρ, n'⟩ c d fs ((r.lt k1).trans (r1.lt k2)) (r1.step k2 i2) xd q2
end
section
variable {P : Program} {w : World} {K : PySem.W.Frag} {mg : Str → Option Value} {base : Heap}
theorem okDX {x qual : Str} {st : Stmt} {f : Addr} {fd : FuncData} {N ps : List Str} {k : Nat} {C : ConX} {t : Gx → TSx} (F : Fun K x qual st f fd) (S : FnScope N ps (defScope st))
    (der : ∀ (G : Gx) (cdv : Value) (A : Around) (fr : List Env) (s : Shared) (H : Hp) (E : XK) (W : WX), Room k (A.deeper (envOfC qual (defScope st) s.heap.objs.size f cdv)) → Takes (cxOf (L2.CX P w) P w K mg base N qual (defScope st) f cdv A fr s H E) W → PZXs (cxOf (L2.CX P w) P w K mg base N qual (defScope st) f cdv A fr s H E) G W (defBody st) (t G))
    (sem : ∀ (G : Gx) (as : List Ar) (n : Nat) (Qd : PyData → Nat → Prop) (Qe : Addr → Fs → Nat → Prop), as.length = ps.length → C G.F as n Qd Qe → t G (fun c fs E => Qe c fs E.n) { nx := fun E => Qd .none E.n, rt := Qd } ⟨as.map Ar.sl ++ List.replicate (N.length - ps.length) Sl.no, n⟩) :
    FnOk P w K mg base (L2.CX P w) (k + 1) f fd ps (spDX C ps.length) := by
  refine F.okX S (fun vs H Q E h => h.1) (fun cdv A fr s H vs Q E hr h => ?_)
  obtain ⟨hl, F', B, as, n, Qd, Qe, sb, hb, hv, i, im, ie, c⟩ := h
  refine ⟨_, der ⟨F', B, H, sb, hb⟩ cdv A fr s H E (fun cls d _ H => E cls d H) hr (takes_of rfl rfl rfl rfl), B, _, _, _, rel_start (G := ⟨F', B, H, sb, hb⟩) hv rfl i, ?_, ?_, by have := sem ⟨F', B, H, sb, hb⟩ as n Qd Qe (hv.length.symm.trans hl) c; rw [← hl] at this; exact this⟩
  · exact ⟨fun O' σ' H' E' l r q => im .none E'.n .non H' r.kp r.str .non q, fun v H' d n k i dv q => im d n v H' k i dv q, fun _ _ _ _ _ _ q => q.elim, fun _ _ _ _ _ _ q => q.elim⟩
  · exact fun O' σ' H' E' c d fs l r xd q => ie c fs E'.n d H' r.kp r.str (xd.less r.bo) q
structure CdX (P : Program) (w : World) (K : PySem.W.Frag) (mg : Str → Option Value) (base : Heap) (k : Nat) (x : Str) (f : Addr) (fd : FuncData) (ps : List Str) (C : ConX) : Prop where
  G : FnOk P w K mg base (L2.CX P w) k f fd ps (spDX C ps.length)
  kp : PySem.W.keepIn K (.ref f) = true
  b : Binds K fd ps []
  g : mg x = some (.ref f)
theorem CdX.mono {j k : Nat} {x : Str} {f : Addr} {fd : FuncData} {ps : List Str} {C : ConX} (c : CdX P w K mg base j x f fd ps C) (h : j ≤ k) : CdX P w K mg base k x f fd ps C := ⟨c.G.mono h, c.kp, c.b, c.g⟩
end
/-! ### raise -/
section
variable {X : Cx} {G : Gx} {W : WX}
def xRaise (C : Addr) (f : Str) (ts : TDa) : TSx := fun We _ E => ts E fun as n => ∃ x, as = [.d x] ∧ We C [(f, x)] ⟨E.ρ, n⟩
theorem zx_raise1 {st : Stmt} {C : Addr} {f : Str} {ts : TDa} (h : PS X st (fun _ σ H => lowA G ts σ H fun vs H1 => ∃ v, vs = [v] ∧ ∀ d, H1 d = none → W (.ref C) (some d) σ (upd H1 d (.xd [(f, v)])))) : PZX X G W st (xRaise C f ts) := PS.wk h fun D σ H ⟨O, E, Dd, We, r, k, kx, z⟩ => by
  refine ⟨O, E, _, r, ?_, z⟩
  rintro as n vs H1 k1 i1 rv ⟨x, rfl, q⟩
  have r1 := r.step k1 i1
  cases rv with
  | cons h1 h2 =>
    cases h2
    refine ⟨_, rfl, fun d hd => ?_⟩
    obtain ⟨k2, i2⟩ := r1.fin (same_upd' (o := .xd [(f, _)]) hd)
    refine kx O σ _ ⟨E.ρ, n⟩ C (some d) [(f, x)] ((r.lt k1).trans (r1.lt k2)) (r1.step k2 i2) ⟨d, _, rfl, upd_same, fun y => r1.al d y hd, Dv.later (later_new hd) h1⟩ q
def xRaise0 (C : Addr) : TSx := fun We _ E => We C [] E
theorem zx_raise0 {st : Stmt} {C : Addr} (h : PS X st (fun _ σ H => W (.ref C) none σ H)) : PZX X G W st (xRaise0 C) := PS.wk h fun D σ H ⟨O, E, Dd, We, r, k, kx, z⟩ => kx O σ H E C none [] (Later.refl O H) r rfl z
end
/-! ### a def as an argument -/
section
variable {X : Cx} {G : Gx}
def aGl (v : V) (ts : TDa) : TDa := fun E Q => ts E fun as m => Q (.c v :: as) m
theorem pr_gl {v : V} {u : Value} {x : Str} {pos : Pos} {es : List Expr} {ts : TDa} (hg : Gl X x) (hm : X.mg x = some u) (rv : RelV v u) (hs : PR X G es ts) (hd : (x == ("__debug__" : Str)) = false := by decide) (hst : starEach (.Name x pos :: es) X.env = (false, eval (.Name x pos) X.env) :: starEach es X.env := by rfl) : PR X G (.Name x pos :: es) (aGl v ts) :=
  PA.wk (pa_cons (pe_glob hg hm rv hd) hs hst) fun σ H Q ⟨O, E, Qd, r, im, z⟩ => by
    refine ⟨O, E, _, r, ?_, z⟩
    rintro as n vs H1 k1 i1 rs q1
    exact im _ n _ H1 k1 i1 (Paired.cons (show ArR O H1 v (.c v) from rfl) rs) q1
end
end Dl
/-! dicts displayed; any, all; reversed, zip; pop, extend -/
namespace Dl
open PySem PySem.Spec PyProof.Rows L2 Gd RT RZ
section
variable {X : Cx} {G : Gx}
theorem pd_dict0 {pos : Pos} : PD X G (.Dict [] [] pos) (dC (.dict [])) := PE.wk pe_dnewK fun σ H Q ⟨O, E, Qd, r, im, z⟩ => by
  intro p hp
  obtain ⟨k, i⟩ := r.fin (same_upd' (o := .dK []) hp)
  exact im _ E.n _ _ k i (.dct (kvs := []) upd_same (fun y => r.al p y hp) (fun _ h => nomatch h)) z
theorem pd_dict1 {x : Str} {i : Int} {j1 j2 : Nat} {p1 p2 pos : Pos} : PD X G (.Dict [some (.Constant (.str x) j1 p1)] [.Constant (.int i) j2 p2] pos) (dC (.dict [(.str x, .int i)])) := PE.wk (pe_disp (pps_cons pe_str pe_int pps_nil) rfl rfl (fun z => by cases z) (show 1 ≤ 15 by decide)) fun σ H Q ⟨O, E, Qd, r, im, z⟩ => by
  intro p hp
  refine ⟨upd_same, [(Sum.inr x, .int i)], rfl, (show 1 ≤ 15 by decide), ?_⟩
  have ec : upd (upd H p (.dK [])) p (.dK (mergeK [] [(Sum.inr x, .int i)])) = upd H p (.dK [(Sum.inr x, .int i)]) := by
    rw [upd_upd]
    rfl
  rw [ec]
  obtain ⟨k, i'⟩ := r.fin (same_upd' (o := .dK [(Sum.inr x, .int i)]) hp)
  exact im _ E.n _ _ k i' (.dct (kvs := [(Sum.inr x, .int i)]) upd_same (fun y => r.al p y hp) (fun q h => by
    rcases List.mem_singleton.mp h with rfl
    rfl)) z
def boolsOf : List PyData → Option (List Bool)
  | [] => some []
  | .bool b :: r => (boolsOf r).map (b :: ·)
  | _ :: _ => none
theorem boolsOf_map : ∀ bs : List Bool, boolsOf (bs.map PyData.bool) = some bs
  | [] => rfl
  | b :: r => by rw [List.map_cons, boolsOf, boolsOf_map r]; rfl
theorem bools_dv {O : Addr → Prop} {H : Hp} : ∀ {vs : List V} {ds : List PyData} {bs : List Bool}, DvL O H vs ds → boolsOf ds = some bs → vs = bs.map V.bl
  | _, _, bs, .nil, e => by cases e; rfl
  | v :: vs, d :: ds, bs, .cons r t, e => by
    cases d with
    | bool b =>
      rw [boolsOf, Option.map_eq_some_iff] at e
      obtain ⟨cs, e1, rfl⟩ := e
      cases r
      rw [bools_dv t e1]
      rfl
    | _ => cases e
def gBools (f : List Bool → Bool) : PyData → Option PyData
  | .list ds => (boolsOf ds).map fun bs => .bool (f bs)
  | _ => none
theorem gBools_of {f : List Bool → Bool} {bs : List Bool} : gBools f (.list (bs.map PyData.bool)) = some (.bool (f bs)) := by
  show (boolsOf (bs.map PyData.bool)).map (fun bs => PyData.bool (f bs)) = _
  rw [boolsOf_map]
  rfl
theorem gBools_el {f : List Bool → Bool} {d z : PyData} (h : gBools f d = some z) : ∃ ds bs, d = .list ds ∧ boolsOf ds = some bs ∧ z = .bool (f bs) := by
  unfold gBools at h
  split at h
  · rw [Option.map_eq_some_iff] at h
    obtain ⟨bs, e, rfl⟩ := h
    exact ⟨_, bs, rfl, e, rfl⟩
  · cases h
theorem pd_any {a : Expr} {ta : TD} {p pos : Pos} (hc : X.calm = true) (ha : PB X G a ta) (hm : X.mg "any" = none) (hg : Gl X "any" := by rfl) (hs : starEach [a] X.env = (false, eval a X.env) :: starEach [] X.env := by rfl) : PD X G (.Call (.Name "any" p) [a] [] pos) (dUn (gBools fun bs => bs.any id) ta) :=
  PE.wk (pe_callB (cr_any hc) hg hm (by decide +kernel) (pa_cons ha pa_nil hs) (he := hs)) (cl1 (by
    intro O H x dx z Q al bx e q
    obtain ⟨ds, bs, rfl, e1, rfl⟩ := gBools_el e
    obtain ⟨a, vs, rfl, h1, d1⟩ := bx.lst
    have := bools_dv d1 e1
    subst this
    exact ⟨a, bs, rfl, sq_of h1, nw_now q (.bl _)⟩))
theorem pd_all {a : Expr} {ta : TD} {p pos : Pos} (hc : X.calm = true) (ha : PB X G a ta) (hm : X.mg "all" = none) (hg : Gl X "all" := by rfl) (hs : starEach [a] X.env = (false, eval a X.env) :: starEach [] X.env := by rfl) : PD X G (.Call (.Name "all" p) [a] [] pos) (dUn (gBools fun bs => bs.all id) ta) :=
  PE.wk (pe_callB (cr_all hc) hg hm (by decide +kernel) (pa_cons ha pa_nil hs) (he := hs)) (cl1 (by
    intro O H x dx z Q al bx e q
    obtain ⟨ds, bs, rfl, e1, rfl⟩ := gBools_el e
    obtain ⟨a, vs, rfl, h1, d1⟩ := bx.lst
    have := bools_dv d1 e1
    subst this
    exact ⟨a, bs, rfl, sq_of h1, nw_now q (.bl _)⟩))
/-! ### reversed -/
theorem rev_get {α : Type} {l : List α} {i : Nat} {x : α} (h : l.reverse[i]? = some x) : i < l.length ∧ l[l.length - 1 - i]? = some x := by
  have hi : i < l.length := by
    have := (List.getElem?_eq_some_iff.mp h).1
    simpa using this
  rw [List.getElem?_reverse hi] at h
  exact ⟨hi, h⟩
theorem wk_revL {K : PySem.W.Frag} {O : Addr → Prop} {H : Hp} {a : Addr} {vs : List V} {ds : List PyData} (h : H a = some (.lst vs)) (n : ¬ O a) (d : DvL O H vs ds) : Wk O H (Itv K a vs.length) ds.reverse := by
  intro O2 H2 L al i
  have e := L.h a _ h n
  have d2 := d.later L
  have l := d.length
  refine ⟨fun x ex => ?_, fun hl => by show vs.length ≤ i; rw [List.length_reverse] at hl; omega⟩
  obtain ⟨hi, ex⟩ := rev_get ex
  rw [← l] at ex hi
  obtain ⟨v, e1, e2⟩ := d2.get ex
  refine ⟨⟨hi, vs, v, sq_of e, e1⟩, ?_⟩
  rintro y H3 ⟨rfl, hy⟩
  have := hy vs (sq_of e)
  rw [e1] at this
  cases this
  exact ⟨fun _ _ e => e, e2⟩
theorem wk_revT {K : PySem.W.Frag} {O : Addr → Prop} {H : Hp} {a : Addr} {vs : List V} {ds : List PyData} (h : H a = some (.tup vs)) (n : ¬ O a) (d : DvL O H vs ds) : Wk O H (ItvT K a vs.length) ds.reverse := by
  intro O2 H2 L al i
  have e := L.h a _ h n
  have d2 := d.later L
  have l := d.length
  refine ⟨fun x ex => ?_, fun hl => by show vs.length ≤ i; rw [List.length_reverse] at hl; omega⟩
  obtain ⟨hi, ex⟩ := rev_get ex
  rw [← l] at ex hi
  obtain ⟨v, e1, e2⟩ := d2.get ex
  refine ⟨⟨hi, vs, v, st_of e, e1⟩, ?_⟩
  rintro y H3 ⟨rfl, hy⟩
  have := hy vs (st_of e)
  rw [e1] at this
  cases this
  exact ⟨fun _ _ e => e, e2⟩
def iRev (t : TD) : TId := fun E Q => t E fun d n => opt (items d) fun ds => Q ds.reverse n
theorem j_rev {tg e : Expr} {t : TD} {p pos : Pos} (h : PD X G e t) (hm : X.mg "reversed" = none) (hg : Gl X "reversed" := by rfl) (hs : starEach [e] X.env = (false, eval e X.env) :: starEach [] X.env := by rfl) :
    PJ X G tg (.Call (.Name "reversed" p) [e] [] pos) (iRev t) := PI.wk (pi_revA hg hm h hs) fun σ H R ⟨O, E, Qd, r, im, z⟩ => by
  refine ⟨O, E, _, r, ?_, z⟩
  rintro d n v H1 k1 i1 rv q1
  obtain ⟨ds, e, q⟩ := opt_el q1
  cases d with
  | list xs =>
    cases e
    obtain ⟨a, vs, rfl, h1, h2, h3⟩ := Dv.unL rv
    exact ⟨a, vs, rfl, .inl ⟨sq_of h1, im _ n _ H1 k1 i1 (wk_revL h1 h2 h3) q⟩⟩
  | tuple xs =>
    cases e
    obtain ⟨a, vs, rfl, h1, h2, h3⟩ := Dv.unT rv
    exact ⟨a, vs, rfl, .inr ⟨st_of h1, im _ n _ H1 k1 i1 (wk_revT h1 h2 h3) q⟩⟩
  | _ => cases e
/-! ### zip of two tuples, of two lists -/
def zipD : List PyData → List PyData → List PyData
  | x :: xs, y :: ys => .tuple [x, y] :: zipD xs ys
  | _, _ => []
theorem zipD_length : ∀ (xs ys : List PyData), (zipD xs ys).length = min xs.length ys.length
  | [], ys => by simp [zipD]
  | _ :: _, [] => by simp [zipD]
  | x :: xs, y :: ys => by simp only [zipD, List.length_cons, zipD_length xs ys]; omega
theorem zipD_get : ∀ (xs ys : List PyData) (i : Nat) (d : PyData), (zipD xs ys)[i]? = some d → ∃ x y, xs[i]? = some x ∧ ys[i]? = some y ∧ d = .tuple [x, y]
  | [], ys, i, d, h => by simp [zipD] at h
  | _ :: _, [], i, d, h => by simp [zipD] at h
  | x :: xs, y :: ys, 0, d, h => by
    simp only [zipD, List.getElem?_cons_zero, Option.some.injEq] at h
    exact ⟨x, y, rfl, rfl, h.symm⟩
  | x :: xs, y :: ys, i + 1, d, h => by
    simp only [zipD, List.getElem?_cons_succ] at h
    obtain ⟨a, b, h1, h2, h3⟩ := zipD_get xs ys i d h
    exact ⟨a, b, by simpa using h1, by simpa using h2, h3⟩
theorem wk_zipL {K : PySem.W.Frag} {O : Addr → Prop} {H : Hp} {a b : Addr} {vs us : List V} {ds es : List PyData} (h : H a = some (.lst vs)) (n : ¬ O a) (d : DvL O H vs ds) (h' : H b = some (.lst us)) (n' : ¬ O b) (d' : DvL O H us es) : Wk O H (Itz K a b) (zipD ds es) := by
  intro O2 H2 L al i
  have e := L.h a _ h n
  have e' := L.h b _ h' n'
  have d2 := d.later L
  have d2' := d'.later L
  have l := d.length
  have l' := d'.length
  refine ⟨fun x ex => ?_, fun hl => ⟨vs, us, sq_of e, sq_of e', by rw [zipD_length] at hl; omega⟩⟩
  obtain ⟨x, y, ex', ey, rfl⟩ := zipD_get ds es i _ ex
  obtain ⟨v, e1, e2⟩ := d2.get ex'
  obtain ⟨u, f1, f2⟩ := d2'.get ey
  refine ⟨⟨vs, us, v, u, sq_of e, sq_of e', e1, f1⟩, ?_⟩
  rintro z H3 ⟨T, x, y, rfl, hT, rfl, hx, hy⟩
  have := hx vs (sq_of e)
  rw [e1] at this
  cases this
  have := hy us (sq_of e')
  rw [f1] at this
  cases this
  exact ⟨same_upd' hT, Dv.mkT upd_same (fun q => al T q hT) (.cons (Dv.later (later_new hT) e2) (.cons (Dv.later (later_new hT) f2) .nil))⟩
theorem wk_zipT {K : PySem.W.Frag} {O : Addr → Prop} {H : Hp} {a b : Addr} {vs us : List V} {ds es : List PyData} (h : H a = some (.tup vs)) (n : ¬ O a) (d : DvL O H vs ds) (h' : H b = some (.tup us)) (n' : ¬ O b) (d' : DvL O H us es) : Wk O H (ItzT K a b) (zipD ds es) := by
  intro O2 H2 L al i
  have e := L.h a _ h n
  have e' := L.h b _ h' n'
  have d2 := d.later L
  have d2' := d'.later L
  have l := d.length
  have l' := d'.length
  refine ⟨fun x ex => ?_, fun hl => ⟨vs, us, st_of e, st_of e', by rw [zipD_length] at hl; omega⟩⟩
  obtain ⟨x, y, ex', ey, rfl⟩ := zipD_get ds es i _ ex
  obtain ⟨v, e1, e2⟩ := d2.get ex'
  obtain ⟨u, f1, f2⟩ := d2'.get ey
  refine ⟨⟨vs, us, v, u, st_of e, st_of e', e1, f1⟩, ?_⟩
  rintro z H3 ⟨T, x, y, rfl, hT, rfl, hx, hy⟩
  have := hx vs (st_of e)
  rw [e1] at this
  cases this
  have := hy us (st_of e')
  rw [f1] at this
  cases this
  exact ⟨same_upd' hT, Dv.mkT upd_same (fun q => al T q hT) (.cons (Dv.later (later_new hT) e2) (.cons (Dv.later (later_new hT) f2) .nil))⟩
def iZip (ts : TDa) : TId := fun E Q => ts E fun as n => match as with
  | [.d (.list xs), .d (.list ys)] => Q (zipD xs ys) n
  | [.d (.tuple xs), .d (.tuple ys)] => Q (zipD xs ys) n
  | _ => False
theorem j_zip {e e2 : Expr} {ts : TDa} {p pos tpos : Pos} {elts : List Expr} {kk : Nat} (ha : PR X G [e, e2] ts) (hm : X.mg "zip" = none) (hg : Gl X "zip" := by rfl) (hs : starEach [e, e2] X.env = (false, eval e X.env) :: starEach [e2] X.env := by rfl) (hpl : (backTo pos (starEach [e2] X.env)).any (·.1) = false := by rfl) :
    PJ X G (.Tuple elts kk tpos) (.Call (.Name "zip" p) [e, e2] [] pos) (iZip ts) := PI.wk (pi_zipA hg hm ha hs hpl) fun σ H R ⟨O, E, Qd, r, im, z⟩ => by
  refine ⟨O, E, _, r, ?_, z⟩
  rintro as n vs H1 k1 i1 rv q1
  split at q1
  · rename_i xs ys
    cases rv with
    | cons h1 t1 =>
      cases t1 with
      | cons h2 t2 =>
        cases t2
        obtain ⟨a, vs, rfl, a1, a2, a3⟩ := Dv.unL h1
        obtain ⟨b, us, rfl, b1, b2, b3⟩ := Dv.unL h2
        exact ⟨a, b, vs, us, rfl, .inl ⟨sq_of a1, sq_of b1, im _ n _ H1 k1 i1 (wk_zipL a1 a2 a3 b1 b2 b3) q1⟩⟩
  · rename_i xs ys
    cases rv with
    | cons h1 t1 =>
      cases t1 with
      | cons h2 t2 =>
        cases t2
        obtain ⟨a, vs, rfl, a1, a2, a3⟩ := Dv.unT h1
        obtain ⟨b, us, rfl, b1, b2, b3⟩ := Dv.unT h2
        exact ⟨a, b, vs, us, rfl, .inr ⟨st_of a1, st_of b1, im _ n _ H1 k1 i1 (wk_zipT a1 a2 a3 b1 b2 b3) q1⟩⟩
  · exact q1.elim
def dRgL1 (t : TD) : TD := fun E Q => t E fun d n => match d with | .int j => decide (-(2 ^ 20) ≤ j ∧ j < 2 ^ 20) = true ∧ Q (.list (rangeD 0 j.toNat)) n | _ => False
theorem pl_listRg1 {a : Expr} {t : TD} {p p2 pos pos2 : Pos} (hc : X.calm = true) (ha : PD X G a t) (hml : X.mg "list" = none) (hm : X.mg "range" = none) (hgl : Gl X "list" := by rfl) (hg : Gl X "range" := by rfl)
    (na : starEach [a] X.env = (false, eval a X.env) :: starEach [] X.env := by rfl)
    (nc : starEach [.Call (.Name "range" p2) [a] [] pos2] X.env = (false, eval (.Call (.Name "range" p2) [a] [] pos2) X.env) :: starEach [] X.env := by rfl) :
    PL X G (.Call (.Name "list" p) [.Call (.Name "range" p2) [a] [] pos2] [] pos) (dRgL1 t) := PE.wk (pe_listRg hc hgl hml (prg_1 hg hm ha na) nc) fun σ H Q ⟨O, E, Qd, r, im, z⟩ => by
  refine ⟨O, E, _, r, ?_, z⟩
  rintro d n v H1 k1 i1 rv q1
  have r1 := r.step k1 i1
  split at q1
  · rename_i jj
    cases rv
    obtain ⟨h, q⟩ := q1
    have h' := of_decide_eq_true h
    have hdv := dvl_rg (O := O) (H := H1) 0 jj
    rw [Int.sub_zero] at hdv
    refine ⟨_, rfl, ⟨by omega, by omega, by omega, by omega, by omega⟩, fun l hl => ?_⟩
    refine nw_lst (Q := Q) (O := O) (ds := rangeD 0 jj.toNat) (fun v H' s ⟨a, us, es, e1, e2, e3, e4, e5⟩ => ?_) hl hdv
    obtain ⟨k3, i3⟩ := r1.fin s
    refine im _ n v H' (k1.trans k3) i3 ⟨a, us, es, e1, e2, ?_, e4, e5⟩ q
    cases e0 : H a with
    | none => rfl
    | some u =>
      by_cases qs : G.F.S a
      · exact (G.F.al n H1 a i1 qs e3).elim
      · exact (Stay.ne (k1 a u e0 qs) e3).elim
  · exact q1.elim
theorem ix_mem {ds : List PyData} {r : Int} (h0 : 0 ≤ r) (h1 : r < ds.length) : ∃ d ∈ ds, gIx (.list ds) (.int r) = some d := by
  obtain ⟨i, rfl⟩ : ∃ i : Nat, r = (i : Int) := ⟨r.toNat, by omega⟩
  have hi : i < ds.length := by omega
  refine ⟨ds[i], List.getElem_mem hi, ?_⟩
  show atI ds (i : Int) = _
  unfold atI
  rw [ixN_nat rfl hi]
  exact List.getElem?_eq_getElem hi
end
end Dl
/-! Shapes: the mathematics. -/
namespace Sh
def en (ns : List Int) (i : Nat) : Int := ns.getD i 0
/-- p - j for the greatest j below k whose entry is at most that of p, 0 if there is none -/
def prevLe (ns : List Int) (p : Nat) : Nat → Nat
  | 0 => 0
  | k + 1 => if en ns k ≤ en ns p then p - k else prevLe ns p k
def dist (ns : List Int) (p : Nat) : Nat := prevLe ns p p
def shp (ns : List Int) : List Int := (List.range ns.length).map fun p => ((dist ns p : Nat) : Int)
theorem shp_length (ns : List Int) : (shp ns).length = ns.length := by simp [shp]
theorem prevLe_le (ns : List Int) (p : Nat) : ∀ k, prevLe ns p k ≤ p
  | 0 => Nat.zero_le _
  | k + 1 => by
    unfold prevLe
    split
    · omega
    · exact prevLe_le ns p k
theorem dist_le (ns : List Int) (p : Nat) : dist ns p ≤ p := prevLe_le ns p p
theorem shp_bd {ns : List Int} {x : Int} (h : x ∈ shp ns) : 0 ≤ x ∧ x ≤ ns.length := by
  unfold shp at h
  obtain ⟨p, hp, rfl⟩ := List.mem_map.mp h
  have := List.mem_range.mp hp
  have := dist_le ns p
  omega
/-- the greatest of those ahead -/
theorem prevLe_max (ns : List Int) (p : Nat) : ∀ k, (prevLe ns p k = 0 ∨ True) ∧ (((List.range k).filter fun j => decide (en ns j ≤ en ns p)) = [] → prevLe ns p k = 0) ∧
    (∀ m : Nat, m ∈ ((List.range k).filter fun j => decide (en ns j ≤ en ns p)) → (∀ y ∈ ((List.range k).filter fun j => decide (en ns j ≤ en ns p)), y ≤ m) → prevLe ns p k = p - m)
  | 0 => ⟨.inr trivial, fun _ => rfl, fun m h => by simp at h⟩
  | k + 1 => by
    obtain ⟨_, i1, i2⟩ := prevLe_max ns p k
    refine ⟨.inr trivial, fun h => ?_, fun m h g => ?_⟩
    · rw [List.range_succ, List.filter_append, List.append_eq_nil_iff] at h
      unfold prevLe
      rw [if_neg ?_]
      · exact i1 h.1
      · intro z
        have := h.2
        simp [z] at this
    · rw [List.range_succ, List.filter_append] at h g
      unfold prevLe
      by_cases z : en ns k ≤ en ns p
      · rw [if_pos z]
        have hk : k ≤ m := g k (List.mem_append_right _ (by simp [z]))
        have : m ≤ k := by
          rcases List.mem_append.mp h with q | q
          · have := List.mem_range.mp (List.mem_filter.mp q).1
            omega
          · have := List.mem_filter.mp q
            simp at this
            omega
        have : m = k := by omega
        rw [this]
      · rw [if_neg z]
        refine i2 m ?_ fun y hy => g y (List.mem_append_left _ hy)
        rcases List.mem_append.mp h with q | q
        · exact q
        · have := List.mem_filter.mp q
          simp at this
          rw [this.1] at this
          exact (z this.2).elim
end Sh
namespace Sh
open PySem PySem.Spec PyProof.Rows L2 Gd Dl
theorem ix_row {ns : List Int} {x : Int} {i : Nat} (e : x = (i : Nat)) (h : i < ns.length) : gIx (tupI ns) (.int x) = some (.int (en ns i)) := by
  subst e
  exact get_tupI h
theorem ix_rowL {ns : List Int} {x : Int} {i : Nat} (e : x = (i : Nat)) (h : i < ns.length) : gIx (lstI ns) (.int x) = some (.int (en ns i)) := by
  subst e
  exact get_tupI h
end Sh
namespace Sh
open PySem PySem.Spec PyProof.Rows L2 Gd Dl
theorem en_shp {ns : List Int} {p : Nat} (h : p < ns.length) : en (shp ns) p = (dist ns p : Nat) := by
  unfold shp en
  rw [List.getD_eq_getElem?_getD, List.getElem?_map, List.getElem?_range h]
  rfl
theorem prevLe_spec (ns : List Int) (p : Nat) : ∀ k, k ≤ p → (∃ j, j < k ∧ en ns j ≤ en ns p ∧ (∀ i, j < i → i < k → en ns p < en ns i) ∧ prevLe ns p k = p - j) ∨ ((∀ i, i < k → en ns p < en ns i) ∧ prevLe ns p k = 0)
  | 0, _ => .inr ⟨fun i h => by omega, rfl⟩
  | k + 1, h => by
    unfold prevLe
    by_cases z : en ns k ≤ en ns p
    · rw [if_pos z]
      exact .inl ⟨k, by omega, z, fun i h1 h2 => by omega, rfl⟩
    · rw [if_neg z]
      rcases prevLe_spec ns p k (by omega) with ⟨j, h1, h2, h3, h4⟩ | ⟨h1, h2⟩
      · refine .inl ⟨j, by omega, h2, fun i i1 i2 => ?_, h4⟩
        by_cases e : i = k
        · subst e; omega
        · exact h3 i i1 (by omega)
      · refine .inr ⟨fun i i2 => ?_, h2⟩
        by_cases e : i = k
        · subst e; omega
        · exact h1 i (by omega)
/-- the distance of p is 0 or leads to a place before f -/
def lead (ns : List Int) (p f : Nat) : Bool := decide (dist ns p = 0) || decide ((p : Int) - (dist ns p : Nat) < f)
theorem lead_iff (ns : List Int) {p f : Nat} : lead ns p f = true ↔ ∀ i, f ≤ i → i < p → en ns p < en ns i := by
  unfold lead dist
  rcases prevLe_spec ns p p (Nat.le_refl _) with ⟨j, h1, h2, h3, h4⟩ | ⟨h1, h2⟩
  · rw [h4]
    have e0 : ¬ (p - j = 0) := by omega
    rw [decide_eq_false e0, Bool.false_or, decide_eq_true_eq]
    constructor
    · intro z i i1 i2
      exact h3 i (by omega) i2
    · intro z
      by_cases e : f ≤ j
      · have := z j e h1
        omega
      · omega
  · rw [h2, decide_eq_true rfl, Bool.true_or]
    exact ⟨fun _ i _ i2 => h1 i i2, fun _ => rfl⟩
/-- the first least place of f .. f + k -/
def best (ns : List Int) (f : Nat) : Nat → Nat
  | 0 => f
  | k + 1 => if en ns (f + k + 1) < en ns (best ns f k) then f + k + 1 else best ns f k
theorem best_bd (ns : List Int) (f : Nat) : ∀ k, f ≤ best ns f k ∧ best ns f k ≤ f + k
  | 0 => ⟨Nat.le_refl _, Nat.le_refl _⟩
  | k + 1 => by
    have := best_bd ns f k
    unfold best
    split <;> omega
theorem best_min (ns : List Int) (f : Nat) : ∀ k i, f ≤ i → i ≤ f + k → en ns (best ns f k) ≤ en ns i
  | 0, i, h1, h2 => by
    have : i = f := by omega
    subst this
    exact Int.le_refl _
  | k + 1, i, h1, h2 => by
    unfold best
    by_cases e : i = f + k + 1
    · subst e
      split <;> omega
    · have := best_min ns f k i h1 (by omega)
      split <;> omega
theorem lead_best (ns : List Int) (f k : Nat) : lead ns (f + k + 1) f = decide (en ns (f + k + 1) < en ns (best ns f k)) := by
  have b := best_bd ns f k
  by_cases z : en ns (f + k + 1) < en ns (best ns f k)
  · rw [decide_eq_true z]
    exact (lead_iff ns).mpr fun i i1 i2 => Int.lt_of_lt_of_le z (best_min ns f k i i1 (by omega))
  · rw [decide_eq_false z]
    cases e : lead ns (f + k + 1) f with
    | false => rfl
    | true => exact (z ((lead_iff ns).mp e _ b.1 (by omega))).elim
theorem lead_first (ns : List Int) (f : Nat) : lead ns f f = true := (lead_iff ns).mpr fun i i1 i2 => by omega
/-- the tree of the places f .. f + s - 1 -/
def trD (ns : List Int) : Nat → Nat → Nat → PyData
  | 0, _, _ => .tuple []
  | k + 1, f, s => if s = 0 then .tuple [] else .tuple [trD ns k f (best ns f (s - 1) - f), trD ns k (best ns f (s - 1) + 1) (f + s - 1 - best ns f (s - 1))]
theorem trD_fuel (ns : List Int) : ∀ k k' f s, s ≤ k → s ≤ k' → trD ns k f s = trD ns k' f s
  | 0, 0, f, s, _, _ => rfl
  | 0, k' + 1, f, s, h, _ => by
    have : s = 0 := by omega
    subst this
    rfl
  | k + 1, 0, f, s, _, h => by
    have : s = 0 := by omega
    subst this
    rfl
  | k + 1, k' + 1, f, s, h, h' => by
    unfold trD
    by_cases z : s = 0
    · rw [if_pos z, if_pos z]
    · rw [if_neg z, if_neg z]
      have b := best_bd ns f (s - 1)
      rw [trD_fuel ns k k' f _ (by omega) (by omega), trD_fuel ns k k' _ _ (by omega) (by omega)]
theorem trD_fit (ns : List Int) : ∀ k f s, Fit (3 * s) (k + 1) (trD ns k f s)
  | 0, f, s => fit_tup (w := 0) (k := 0) (fun d hd => by cases hd) (by simp)
  | k + 1, f, s => by
    unfold trD
    split
    · exact (fit_tup (w := 0) (k := 0) (W := 0) (fun d hd => by cases hd) (by simp)).mono (by omega) (by omega)
    · have b := best_bd ns f (s - 1)
      have f1 := trD_fit ns k f (best ns f (s - 1) - f)
      have f2 := trD_fit ns k (best ns f (s - 1) + 1) (f + s - 1 - best ns f (s - 1))
      refine ⟨?_, ?_, ?_, ?_⟩
      · rw [PyData.showable, PyData.showableAll, PyData.showableAll, PyData.showableAll, f1.sh, f2.sh]
        rfl
      · rw [PyData.leavesShort, PyData.leavesShortAll, PyData.leavesShortAll, PyData.leavesShortAll, f1.lv, f2.lv]
        rfl
      · have w1 := f1.wt
        have w2 := f2.wt
        rw [PyData.weight, PyData.weightAll, PyData.weightAll, PyData.weightAll]
        omega
      · have d1 := f1.dp
        have d2 := f2.dp
        rw [PyData.depth, PyData.depthAll, PyData.depthAll, PyData.depthAll]
        omega
end Sh
/-! Trees: the mathematics. -/
namespace Sh
open PySem PySem.Spec PyProof.Rows L2 Gd Dl
inductive Tr
  | nil
  | node (l r : Tr)
def Tr.size : Tr → Nat
  | .nil => 0
  | .node l r => l.size + r.size + 1
def encT : Tr → PyData
  | .nil => .tuple []
  | .node l r => .tuple [encT l, encT r]
def ents : Tr → Int → List Int
  | .nil, _ => []
  | .node l r, e => ents l (e + 1) ++ [e] ++ ents r e
def dsts : Tr → Bool → List Int
  | .nil, _ => []
  | .node l r, b => dsts l b ++ [if b then ((dsts l b).length : Int) + 1 else 0] ++ dsts r true
theorem ents_length : ∀ (t : Tr) (e : Int), (ents t e).length = t.size
  | .nil, _ => rfl
  | .node l r, e => by
    show (ents l (e + 1) ++ [e] ++ ents r e).length = l.size + r.size + 1
    rw [List.length_append, List.length_append, ents_length l, ents_length r]
    simp
    omega
theorem dsts_length : ∀ (t : Tr) (b : Bool), (dsts t b).length = t.size
  | .nil, _ => rfl
  | .node l r, b => by
    show (dsts l b ++ [_] ++ dsts r true).length = l.size + r.size + 1
    rw [List.length_append, List.length_append, dsts_length l, dsts_length r]
    simp
    omega
theorem ents_ge : ∀ (t : Tr) (e x : Int), x ∈ ents t e → e ≤ x ∧ x ≤ e + t.size
  | .nil, _, _, h => by cases h
  | .node l r, e, x, h => by
    have h' : x ∈ ents l (e + 1) ++ [e] ++ ents r e := h
    have hs : (Tr.node l r).size = l.size + r.size + 1 := rfl
    rcases List.mem_append.mp h' with z | z
    · rcases List.mem_append.mp z with z | z
      · have := ents_ge l (e + 1) x z
        omega
      · simp at z
        omega
    · have := ents_ge r e x z
      omega
theorem en_app {a b : List Int} {i : Nat} : en (a ++ b) i = if i < a.length then en a i else en b (i - a.length) := by
  unfold en
  rw [List.getD_eq_getElem?_getD, List.getD_eq_getElem?_getD, List.getD_eq_getElem?_getD, List.getElem?_append]
  split <;> rfl
theorem prevLe_app (a b : List Int) (p : Nat) (hp : p < a.length) : ∀ k, k ≤ p → prevLe (a ++ b) p k = prevLe a p k
  | 0, _ => rfl
  | k + 1, h => by
    have e1 : en (a ++ b) k = en a k := by rw [en_app, if_pos (by omega)]
    have e2 : en (a ++ b) p = en a p := by rw [en_app, if_pos hp]
    unfold prevLe
    rw [e1, e2, prevLe_app a b p hp k (by omega)]
theorem dist_app {a b : List Int} {p : Nat} (hp : p < a.length) : dist (a ++ b) p = dist a p := prevLe_app a b p hp p (Nat.le_refl _)
/-- the nearest earlier entry that is not greater stands at j -/
theorem dist_at {ns : List Int} {p j : Nat} (hj : j < p) (h : en ns j ≤ en ns p) (hi : ∀ i, j < i → i < p → en ns p < en ns i) : dist ns p = p - j := by
  unfold dist
  rcases prevLe_spec ns p p (Nat.le_refl _) with ⟨j', h1, h2, h3, h4⟩ | ⟨h1, h2⟩
  · rw [h4]
    by_cases e : j' = j
    · rw [e]
    · by_cases z : j < j'
      · have := hi j' z h1
        omega
      · have := h3 j (by omega) hj
        omega
  · have := h1 j hj
    omega
theorem dist_none {ns : List Int} {p : Nat} (hi : ∀ i, i < p → en ns p < en ns i) : dist ns p = 0 := by
  unfold dist
  rcases prevLe_spec ns p p (Nat.le_refl _) with ⟨j', h1, h2, h3, h4⟩ | ⟨h1, h2⟩
  · have := hi j' h1
    omega
  · exact h2
theorem en_mem {ns : List Int} {i : Nat} (h : i < ns.length) : en ns i ∈ ns := by
  unfold en
  rw [List.getD_eq_getElem?_getD, List.getElem?_eq_getElem h]
  exact List.getElem_mem h
theorem tree_dist : ∀ (t : Tr) (e : Int) (pre : List Int) (b : Bool), (b = true → ∃ pre' x, pre = pre' ++ [x] ∧ x ≤ e) → (b = false → pre = []) → ∀ i, i < t.size → ((dist (pre ++ ents t e) (pre.length + i) : Nat) : Int) = en (dsts t b) i
  | .nil, e, pre, b, _, _, i, h => by cases h
  | .node l r, e, pre, b, h1, h0, i, h => by
    have hs : (Tr.node l r).size = l.size + r.size + 1 := rfl
    have hel : (ents l (e + 1)).length = l.size := ents_length l _
    have hdl : (dsts l b).length = l.size := dsts_length l b
    have er : pre ++ ents (.node l r) e = (pre ++ ents l (e + 1)) ++ ([e] ++ ents r e) := by
      show pre ++ (ents l (e + 1) ++ [e] ++ ents r e) = _
      simp
    have er2 : pre ++ ents (.node l r) e = (pre ++ ents l (e + 1) ++ [e]) ++ ents r e := by
      show pre ++ (ents l (e + 1) ++ [e] ++ ents r e) = _
      simp
    have ed : dsts (.node l r) b = dsts l b ++ [if b then ((dsts l b).length : Int) + 1 else 0] ++ dsts r true := rfl
    rw [ed]
    by_cases c1 : i < l.size
    · rw [er, dist_app (by rw [List.length_append]; omega), en_app, if_pos (by simp; omega), en_app, if_pos (by omega)]
      exact tree_dist l (e + 1) pre b (fun z => by obtain ⟨p', x, e1, e2⟩ := h1 z; exact ⟨p', x, e1, by omega⟩) h0 i c1
    · by_cases c2 : i = l.size
      · subst c2
        have hroot : en (dsts l b ++ [if b then ((dsts l b).length : Int) + 1 else 0] ++ dsts r true) l.size = if b then (l.size : Int) + 1 else 0 := by
          rw [en_app, if_pos (by simp; omega), en_app, if_neg (by omega), hdl]
          simp [en]
        rw [hroot]
        have ep : en (pre ++ ents (.node l r) e) (pre.length + l.size) = e := by
          rw [er2, en_app, if_pos (by simp; omega), en_app, if_neg (by simp; omega)]
          simp [en, hel]
        have el : ∀ i, pre.length ≤ i → i < pre.length + l.size → e < en (pre ++ ents (.node l r) e) i := by
          intro i i1 i2
          rw [er, en_app, if_pos (by rw [List.length_append]; omega), en_app, if_neg (by omega)]
          have := ents_ge l (e + 1) _ (en_mem (ns := ents l (e + 1)) (i := i - pre.length) (by omega))
          omega
        cases b with
        | true =>
          obtain ⟨pre', x, e1, e2⟩ := h1 rfl
          have hx : en (pre ++ ents (.node l r) e) (pre.length - 1) = x := by
            rw [en_app, if_pos (by rw [e1]; simp), e1, en_app, if_neg (by simp)]
            simp [en]
          have hpl : 0 < pre.length := by rw [e1]; simp
          rw [dist_at (j := pre.length - 1) (by omega) (by rw [ep, hx]; exact e2) (fun i i1 i2 => by rw [ep]; exact el i (by omega) i2)]
          rw [if_pos rfl]
          omega
        | false =>
          have hp : pre = [] := h0 rfl
          subst hp
          rw [dist_none (fun i i2 => by rw [ep]; exact el i (Nat.zero_le _) i2)]
          rfl
      · have hi : i = l.size + 1 + (i - l.size - 1) := by omega
        have := tree_dist r e (pre ++ ents l (e + 1) ++ [e]) true (fun _ => ⟨_, _, rfl, Int.le_refl _⟩) (fun z => by cases z) (i - l.size - 1) (by omega)
        rw [er2, en_app, if_neg (by simp; omega)]
        have e3 : (pre ++ ents l (e + 1) ++ [e]).length + (i - l.size - 1) = pre.length + i := by simp; omega
        rw [e3] at this
        rw [this]
        congr 1
        simp
        omega
theorem shp_ents (t : Tr) : shp (ents t 0) = dsts t false := by
  refine List.ext_getElem? fun i => ?_
  by_cases h : i < t.size
  · have h1 : i < (shp (ents t 0)).length := by rw [shp_length, ents_length]; exact h
    have h2 : i < (dsts t false).length := by rw [dsts_length]; exact h
    have e1 : en (shp (ents t 0)) i = (dist (ents t 0) i : Nat) := en_shp (by rw [ents_length]; exact h)
    have e2 := tree_dist t 0 [] false (fun z => by cases z) (fun _ => rfl) i h
    rw [List.nil_append, List.length_nil, Nat.zero_add] at e2
    rw [e2] at e1
    unfold en at e1
    rw [List.getD_eq_getElem?_getD, List.getD_eq_getElem?_getD, List.getElem?_eq_getElem h1, List.getElem?_eq_getElem h2] at e1
    rw [List.getElem?_eq_getElem h1, List.getElem?_eq_getElem h2]
    exact congrArg some e1
  · rw [List.getElem?_eq_none (by rw [shp_length, ents_length]; omega), List.getElem?_eq_none (by rw [dsts_length]; omega)]
theorem encT_fit : ∀ t : Tr, Fit (3 * t.size) (t.size + 1) (encT t)
  | .nil => fit_tup (w := 0) (k := 0) (fun d hd => by cases hd) (by simp)
  | .node l r => by
    have f1 := encT_fit l
    have f2 := encT_fit r
    have hs : (Tr.node l r).size = l.size + r.size + 1 := rfl
    show Fit _ _ (.tuple [encT l, encT r])
    refine ⟨?_, ?_, ?_, ?_⟩
    · rw [PyData.showable, PyData.showableAll, PyData.showableAll, PyData.showableAll, f1.sh, f2.sh]
      rfl
    · rw [PyData.leavesShort, PyData.leavesShortAll, PyData.leavesShortAll, PyData.leavesShortAll, f1.lv, f2.lv]
      rfl
    · have w1 := f1.wt
      have w2 := f2.wt
      rw [PyData.weight, PyData.weightAll, PyData.weightAll, PyData.weightAll]
      omega
    · have d1 := f1.dp
      have d2 := f2.dp
      rw [PyData.depth, PyData.depthAll, PyData.depthAll, PyData.depthAll]
      omega
theorem encT_lay : ∀ t : Tr, (encT t).canLay0 = true
  | .nil => rfl
  | .node l r => by
    show PyData.canLayAll0 [encT l, encT r] = true
    rw [PyData.canLayAll0, PyData.canLayAll0, PyData.canLayAll0, encT_lay l, encT_lay r]
    rfl
theorem encT_nil {t : Tr} (h : t.size ≤ 60) : gEq false (encT t) (.tuple []) = some (.bool (match t with | .nil => true | _ => false)) := by
  have s1 : SeqAt.shaped (encT t) = true := by
    unfold SeqAt.shaped
    have := (encT_fit t).dp
    rw [encT_lay, decide_eq_true (by omega)]
    rfl
  have s2 : SeqAt.shaped (.tuple []) = true := by decide +kernel
  unfold gEq
  cases t with
  | nil =>
    show (if (SeqAt.shaped (PyData.tuple []) && SeqAt.shaped (PyData.tuple [])) = true then some (PyData.bool (false != PyData.eqv (PyData.tuple []) (PyData.tuple []))) else none) = _
    rw [s2, Bool.and_true, if_pos rfl]
    rfl
  | node l r =>
    show (if (SeqAt.shaped (encT (.node l r)) && SeqAt.shaped (PyData.tuple [])) = true then some (PyData.bool (false != PyData.eqv (PyData.tuple [encT l, encT r]) (PyData.tuple []))) else none) = _
    rw [s1, s2, Bool.and_true, if_pos rfl, PyData.eqv]
    rfl
end Sh
/-! Least rows: the mathematics. -/
namespace Sh
open PySem PySem.Spec PyProof.Rows L2 Gd Dl
/-- the place to which p leads, -1 if there is none -/
def tgt (ns : List Int) (p : Nat) : Int := if dist ns p = 0 then -1 else (p : Int) - (dist ns p : Nat)
theorem tgt_bd (ns : List Int) (p : Nat) : -1 ≤ tgt ns p ∧ tgt ns p < p := by
  unfold tgt
  have := dist_le ns p
  split <;> omega
theorem tgt_spec (ns : List Int) (p : Nat) : (∀ i : Nat, tgt ns p < i → i < p → en ns p < en ns i) ∧ (∀ t : Nat, tgt ns p = t → en ns t ≤ en ns p) := by
  unfold tgt dist
  rcases prevLe_spec ns p p (Nat.le_refl _) with ⟨j, h1, h2, h3, h4⟩ | ⟨h1, h2⟩
  · rw [h4, if_neg (by omega)]
    refine ⟨fun i i1 i2 => h3 i (by omega) i2, fun t ht => ?_⟩
    have : t = j := by omega
    rw [this]
    exact h2
  · rw [h2, if_pos rfl]
    exact ⟨fun i _ i2 => h1 i i2, fun t ht => by omega⟩
/-- an entry is at least that of the place to which it leads | all places between are greater -/
def Ac (ns e : List Int) : Prop := ∀ p : Nat, p < ns.length → ∀ t : Nat, tgt ns p = t → en e t ≤ en e p
def Bc (ns e : List Int) : Prop := ∀ p : Nat, p < ns.length → ∀ o : Nat, tgt ns p < o → o < p → en e p + 1 ≤ en e o
def Nn (ns e : List Int) : Prop := ∀ p : Nat, p < ns.length → 0 ≤ en e p
structure IsLow (ns e : List Int) : Prop where
  len : e.length = ns.length
  nn : Nn ns e
  b : Bc ns e
  a : Ac ns e
  low : ∀ e', Nn ns e' → Bc ns e' → ∀ p, p < ns.length → en e p ≤ en e' p
structure IsRai (ns e : List Int) : Prop where
  len : e.length = ns.length
  nn : Nn ns e
  b : Bc ns e
  a : Ac ns e
  low : ∀ e', Nn ns e' → Bc ns e' → Ac ns e' → ∀ p, p < ns.length → en e p ≤ en e' p
theorem low_rai {ns e f : List Int} (h : IsLow ns e) (g : IsRai ns f) : e = f := by
  refine List.ext_getElem? fun i => ?_
  by_cases hi : i < ns.length
  · have h1 := h.low f g.nn g.b i hi
    have h2 := g.low e h.nn h.b h.a i hi
    have l1 : i < e.length := by rw [h.len]; exact hi
    have l2 : i < f.length := by rw [g.len]; exact hi
    unfold en at h1 h2
    rw [List.getD_eq_getElem?_getD, List.getD_eq_getElem?_getD, List.getElem?_eq_getElem l1, List.getElem?_eq_getElem l2] at h1 h2
    rw [List.getElem?_eq_getElem l1, List.getElem?_eq_getElem l2]
    have h1' : e[i] ≤ f[i] := h1
    have h2' : f[i] ≤ e[i] := h2
    rw [show e[i] = f[i] by omega]
  · rw [List.getElem?_eq_none (by rw [h.len]; omega), List.getElem?_eq_none (by rw [g.len]; omega)]
theorem low_shp {ns e : List Int} (h : IsLow ns e) : shp e = shp ns := by
  unfold shp
  rw [h.len]
  refine List.map_congr_left fun p hp => ?_
  have hp' := List.mem_range.mp hp
  have hb := tgt_bd ns p
  have key : dist e p = dist ns p := by
    by_cases z : dist ns p = 0
    · rw [z]
      have ht : tgt ns p = -1 := by unfold tgt; rw [if_pos z]
      exact dist_none fun i hi => by have := h.b p hp' i (by omega) hi; omega
    · have ht : tgt ns p = ((p - dist ns p : Nat) : Int) := by
        unfold tgt
        rw [if_neg z]
        have := dist_le ns p
        omega
      have hd := dist_le ns p
      rw [dist_at (ns := e) (p := p) (j := p - dist ns p) (by omega) (h.a p hp' _ ht) (fun i i1 i2 => by have := h.b p hp' i (by omega) i2; omega)]
      omega
  rw [key]
theorem en_set {l : List Int} {p i : Nat} {x : Int} : en (l.set p x) i = if i = p ∧ p < l.length then x else en l i := by
  unfold en
  rw [List.getD_eq_getElem?_getD, List.getD_eq_getElem?_getD, List.getElem?_set]
  by_cases e : p = i
  · subst e
    rw [if_pos rfl]
    by_cases z : p < l.length
    · rw [if_pos z, if_pos ⟨rfl, z⟩]
      rfl
    · rw [if_neg z, if_neg (fun y => z y.2), List.getElem?_eq_none (by omega)]
  · rw [if_neg e, if_neg (fun y => e y.1.symm)]
/-- while the places from m on are done -/
structure LowI (ns e : List Int) (m : Nat) : Prop where
  len : e.length = ns.length
  nn : Nn ns e
  b : ∀ p : Nat, m ≤ p → p < ns.length → ∀ o : Nat, tgt ns p < o → o < p → en e p + 1 ≤ en e o
  w : ∀ o : Nat, o < ns.length → en e o = 0 ∨ ∃ q : Nat, m ≤ q ∧ q < ns.length ∧ tgt ns q < o ∧ o < q ∧ en e o = en e q + 1
  low : ∀ e', Nn ns e' → Bc ns e' → ∀ p, p < ns.length → en e p ≤ en e' p
theorem lowI_start (ns : List Int) : LowI ns (List.replicate ns.length 0) ns.length := by
  have e0 : ∀ i, en (List.replicate ns.length 0) i = 0 := by
    intro i
    unfold en
    rw [List.getD_eq_getElem?_getD, List.getElem?_replicate]
    split <;> rfl
  exact ⟨by simp, fun p _ => by rw [e0]; omega, fun p h1 h2 => by omega, fun o _ => .inl (e0 o), fun e' h _ p hp => by rw [e0]; exact h p hp⟩
/-- p is done: all between are raised above it -/
theorem lowI_step {ns e e2 : List Int} {m : Nat} (h : LowI ns e (m + 1)) (hm : m < ns.length) (hl : e2.length = e.length)
    (he : ∀ o : Nat, en e2 o = if tgt ns m < o ∧ o < m then (if en e m + 1 > en e o then en e m + 1 else en e o) else en e o) : LowI ns e2 m := by
  have em : en e2 m = en e m := by rw [he, if_neg (by omega)]
  have ge : ∀ o, en e o ≤ en e2 o := by
    intro o
    rw [he]
    split
    · split <;> omega
    · omega
  have eq : ∀ q, m ≤ q → en e2 q = en e q := fun q hq => by rw [he, if_neg (by omega)]
  refine ⟨hl.trans h.len, fun p hp => Int.le_trans (h.nn p hp) (ge p), fun p h1 h2 o o1 o2 => ?_, fun o ho => ?_, fun e' n' b' p hp => ?_⟩
  · by_cases z : p = m
    · subst z
      rw [em, he, if_pos ⟨o1, o2⟩]
      split <;> omega
    · rw [eq p h1]
      have := h.b p (by omega) h2 o o1 o2
      have := ge o
      omega
  · rw [he]
    by_cases c : tgt ns m < o ∧ o < m
    · rw [if_pos c]
      split
      · exact .inr ⟨m, Nat.le_refl _, hm, c.1, c.2, by rw [em]⟩
      · rcases h.w o ho with z | ⟨q, q1, q2, q3, q4, q5⟩
        · exact .inl z
        · exact .inr ⟨q, by omega, q2, q3, q4, by rw [q5, eq q (by omega)]⟩
    · rw [if_neg c]
      rcases h.w o ho with z | ⟨q, q1, q2, q3, q4, q5⟩
      · exact .inl z
      · exact .inr ⟨q, by omega, q2, q3, q4, by rw [q5, eq q (by omega)]⟩
  · rw [he]
    split
    · rename_i c
      split
      · have h1 := h.low e' n' b' m hm
        have h2 := b' m hm p c.1 c.2
        omega
      · exact h.low e' n' b' p hp
    · exact h.low e' n' b' p hp
theorem lowI_end {ns e : List Int} (h : LowI ns e 0) : IsLow ns e := by
  refine ⟨h.len, h.nn, fun p hp o o1 o2 => h.b p (Nat.zero_le _) hp o o1 o2, fun p hp t ht => ?_, h.low⟩
  have tb := tgt_bd ns p
  rcases h.w t (by omega) with z | ⟨q, q1, q2, q3, q4, q5⟩
  · rw [z]
    exact h.nn p hp
  · by_cases c : p < q
    · rw [q5]
      exact h.b q (Nat.zero_le _) q2 p (by omega) c
    · exfalso
      have sp := (tgt_spec ns p).1
      have st := (tgt_spec ns p).2 t ht
      by_cases e : q = p
      · subst e
        omega
      · have h1 := sp q (by omega) (by omega)
        have h2 := (tgt_spec ns q).1 t (by omega) q4
        omega
end Sh
namespace Sh
open PySem PySem.Spec PyProof.Rows L2 Gd Dl
structure RaiI (ns e : List Int) : Prop where
  len : e.length = ns.length
  nn : Nn ns e
  low : ∀ e', Nn ns e' → Bc ns e' → Ac ns e' → ∀ p, p < ns.length → en e p ≤ en e' p
theorem raiI_start (ns : List Int) : RaiI ns (List.replicate ns.length 0) := by
  have h := lowI_start ns
  exact ⟨h.len, h.nn, fun e' n' b' _ p hp => h.low e' n' b' p hp⟩
theorem sum_set : ∀ (l : List Int) (p : Nat) (x : Int), p < l.length → (l.set p x).sum = l.sum + x - en l p
  | [], p, x, h => by simp at h
  | a :: l, 0, x, h => by simp [en]; omega
  | a :: l, p + 1, x, h => by
    have := sum_set l p x (by simpa using h)
    simp only [List.set_cons_succ, List.sum_cons]
    rw [this]
    have : en (a :: l) (p + 1) = en l p := by simp [en]
    rw [this]
    omega
theorem sum_le : ∀ (a b : List Int), a.length = b.length → (∀ i, i < a.length → en a i ≤ en b i) → a.sum ≤ b.sum
  | [], [], _, _ => Int.le_refl _
  | [], _ :: _, h, _ => by cases h
  | _ :: _, [], h, _ => by cases h
  | x :: a, y :: b, h, g => by
    have h0 : x ≤ y := g 0 (by simp)
    have := sum_le a b (Nat.succ.inj h) fun i hi => by
      have := g (i + 1) (by simpa using hi)
      simpa [en] using this
    simp only [List.sum_cons]
    omega
/-- the entries themselves, moved up, are such a row -/
def top0 (ns : List Int) : List Int := ns.map fun x => x + 1000000000
theorem en_top {ns : List Int} {p : Nat} (h : p < ns.length) : en (top0 ns) p = en ns p + 1000000000 := by
  unfold en top0
  rw [List.getD_eq_getElem?_getD, List.getD_eq_getElem?_getD, List.getElem?_map, List.getElem?_eq_getElem h]
  rfl
theorem rai_top {ns e : List Int} (h : RaiI ns e) (bd : ∀ x ∈ ns, -1000000000 ≤ x ∧ x ≤ 1000000000) : e.sum ≤ (top0 ns).sum := by
  refine sum_le _ _ (by rw [h.len]; simp [top0]) fun i hi => h.low _ (fun p hp => ?_) (fun p hp o o1 o2 => ?_) (fun p hp t ht => ?_) i (by rw [← h.len]; exact hi)
  · rw [en_top hp]
    have := bd _ (en_mem hp)
    omega
  · rw [en_top hp, en_top (by omega)]
    have := (tgt_spec ns p).1 o o1 o2
    omega
  · have := tgt_bd ns p
    rw [en_top hp, en_top (by omega)]
    have := (tgt_spec ns p).2 t ht
    omega
theorem rai_set {ns e : List Int} {p : Nat} {x : Int} (h : RaiI ns e) (hp : p < ns.length) (hx : en e p ≤ x) (hl : ∀ e', Nn ns e' → Bc ns e' → Ac ns e' → (∀ q, q < ns.length → en e q ≤ en e' q) → x ≤ en e' p) : RaiI ns (e.set p x) := by
  refine ⟨by simp [h.len], fun q hq => ?_, fun e' n' b' a' q hq => ?_⟩
  · rw [en_set]
    split
    · have := h.nn p hp
      omega
    · exact h.nn q hq
  · rw [en_set]
    split
    · rename_i z
      rw [z.1]
      exact hl e' n' b' a' fun q hq => h.low e' n' b' a' q hq
    · exact h.low e' n' b' a' q hq
/-- within one pass: es at its start, b whether something was raised, P what holds of es if nothing was -/
structure St9 (ns es e : List Int) (b : Bool) (P : Prop) : Prop where
  rai : RaiI ns e
  f : b = false → e = es ∧ P
  t : b = true → es.sum < e.sum
theorem St9.ge {ns es e : List Int} {b : Bool} {P : Prop} (h : St9 ns es e b P) : es.sum ≤ e.sum := by
  cases b with
  | true => exact Int.le_of_lt (h.t rfl)
  | false => rw [(h.f rfl).1]; exact Int.le_refl _
theorem St9.imp {ns es e : List Int} {b : Bool} {P P' : Prop} (h : St9 ns es e b P) (g : e = es → P → P') : St9 ns es e b P' := ⟨h.rai, fun z => ⟨(h.f z).1, g (h.f z).1 (h.f z).2⟩, h.t⟩
theorem St9.up {ns es e : List Int} {b : Bool} {P P' : Prop} {p : Nat} {x : Int} (h : St9 ns es e b P) (hp : p < ns.length) (hx : en e p < x) (hl : ∀ e', Nn ns e' → Bc ns e' → Ac ns e' → (∀ q, q < ns.length → en e q ≤ en e' q) → x ≤ en e' p) : St9 ns es (e.set p x) true P' := by
  refine ⟨rai_set h.rai hp (by omega) hl, (fun z => by cases z), fun _ => ?_⟩
  rw [sum_set e p x (by rw [h.rai.len]; exact hp)]
  have := h.ge
  omega
end Sh
namespace Sh
open PySem PySem.Spec PyProof.Rows L2 Gd Dl
theorem top_sol {ns : List Int} (bd : ∀ x ∈ ns, -1000000000 ≤ x ∧ x ≤ 1000000000) : Nn ns (top0 ns) ∧ Bc ns (top0 ns) := by
  refine ⟨fun p hp => ?_, fun p hp o o1 o2 => ?_⟩
  · rw [en_top hp]
    have := bd _ (en_mem hp)
    omega
  · rw [en_top hp, en_top (by omega)]
    have := (tgt_spec ns p).1 o o1 o2
    omega
theorem low_bd {ns e : List Int} (h : IsLow ns e) (bd : ∀ x ∈ ns, -1000000000 ≤ x ∧ x ≤ 1000000000) : ∀ x ∈ e, 0 ≤ x ∧ x ≤ 2000000000 := by
  intro x hx
  obtain ⟨i, hi, rfl⟩ := List.mem_iff_getElem.mp hx
  have hn : i < ns.length := by rw [← h.len]; exact hi
  have e1 : en e i = e[i] := by
    unfold en
    rw [List.getD_eq_getElem?_getD, List.getElem?_eq_getElem hi]
    rfl
  have h1 := h.nn i hn
  have h2 := h.low _ (top_sol bd).1 (top_sol bd).2 i hn
  rw [en_top hn, e1] at h2
  rw [e1] at h1
  have := bd _ (en_mem hn)
  omega
end Sh
namespace Sh
open PySem PySem.Spec PyProof.Rows L2 Gd Dl
theorem dist_of_shp {a b : List Int} (h : shp a = shp b) : a.length = b.length ∧ ∀ p, p < a.length → dist a p = dist b p := by
  have hl : a.length = b.length := by rw [← shp_length a, h, shp_length]
  refine ⟨hl, fun p hp => ?_⟩
  have e1 := en_shp hp
  have e2 := en_shp (ns := b) (p := p) (by omega)
  rw [h, e2] at e1
  omega
theorem tgt_of_shp {a b : List Int} (h : shp a = shp b) {p : Nat} (hp : p < a.length) : tgt a p = tgt b p := by
  unfold tgt
  rw [(dist_of_shp h).2 p hp]
theorem sol_of_shp {ns e : List Int} (h : shp e = shp ns) : Bc ns e := by
  obtain ⟨hl, _⟩ := dist_of_shp h
  intro p hp o o1 o2
  rw [← tgt_of_shp h (by omega)] at o1
  have := (tgt_spec e p).1 o o1 o2
  omega
theorem IsLow.congr {a b e : List Int} (h : shp a = shp b) (g : IsLow a e) : IsLow b e := by
  obtain ⟨hl, _⟩ := dist_of_shp h
  have bc : ∀ {e : List Int}, Bc b e → Bc a e := fun z p hp o o1 o2 => z p (by omega) o (by rw [← tgt_of_shp h hp]; exact o1) o2
  refine ⟨by rw [g.len, hl], fun p hp => g.nn p (by omega), fun p hp o o1 o2 => g.b p (by omega) o (by rw [tgt_of_shp h (by omega)]; exact o1) o2, fun p hp t ht => g.a p (by omega) t (by rw [tgt_of_shp h (by omega)]; exact ht), fun e' n' b' p hp => g.low e' (fun q hq => n' q (by omega)) (bc b') p (by omega)⟩
theorem low_unique {a b e f : List Int} (h : shp a = shp b) (g : IsLow a e) (g' : IsLow b f) : e = f := by
  have g2 := IsLow.congr h g
  refine List.ext_getElem? fun i => ?_
  by_cases hi : i < b.length
  · have h1 := g2.low f g'.nn g'.b i hi
    have h2 := g'.low e g2.nn g2.b i hi
    have l1 : i < e.length := by rw [g2.len]; exact hi
    have l2 : i < f.length := by rw [g'.len]; exact hi
    unfold en at h1 h2
    rw [List.getD_eq_getElem?_getD, List.getD_eq_getElem?_getD, List.getElem?_eq_getElem l1, List.getElem?_eq_getElem l2] at h1 h2
    rw [List.getElem?_eq_getElem l1, List.getElem?_eq_getElem l2]
    have h1' : e[i] ≤ f[i] := h1
    have h2' : f[i] ≤ e[i] := h2
    rw [show e[i] = f[i] by omega]
  · rw [List.getElem?_eq_none (by rw [g2.len]; omega), List.getElem?_eq_none (by rw [g'.len]; omega)]
theorem take_set {l : List Int} {p : Nat} {x : Int} (h : p < l.length) : l.take p ++ [x] ++ l.drop (p + 1) = l.set p x := by
  rw [List.set_eq_take_append_cons_drop, if_pos h]
  simp
theorem less_bad {ns e : List Int} {p : Nat} (h : IsLow ns e) (hp : p < ns.length) (h0 : 0 < en e p) : shp (e.set p (en e p - 1)) ≠ shp ns := by
  intro z
  have hl : p < e.length := by rw [h.len]; exact hp
  have := h.low (e.set p (en e p - 1)) (fun q hq => by
    rw [en_set]
    split
    · omega
    · exact h.nn q hq) (sol_of_shp z) p hp
  rw [en_set, if_pos ⟨rfl, hl⟩] at this
  omega
theorem more_ok {ns e f : List Int} (h : IsLow ns e) (hf : ∀ p, p < ns.length → 0 ≤ en f p) (z : shp f = shp ns) : ∀ p, p < ns.length → en e p ≤ en f p := h.low f hf (sol_of_shp z)
theorem cut_drop {ms : List Int} {t : Nat} {x : Int} (e : x = (t : Nat)) (h : t ≤ ms.length) : gSlT (tupI ms) (some x) none = some (tupI (ms.drop t)) := by
  subst e
  unfold gSlT
  show some (PyData.tuple (Dl.cutD (ms.map dI) (some (t : Int)) none)) = _
  have : Dl.cutD (ms.map dI) (some (t : Int)) none = (ms.drop t).map dI := by
    unfold Dl.cutD
    rw [HT.sIx_none, HT.sIx_nat, List.length_map, Nat.min_eq_left h, List.map_drop, List.take_of_length_le (by simp)]
  rw [this]
end Sh
namespace Sh
open PySem PySem.Spec PyProof.Rows L2 Gd Dl
/-- the same order of earlier and later entries -/
def Oc (ns f : List Int) : Prop := f.length = ns.length ∧ ∀ i j : Nat, i < j → j < ns.length → (en f i ≤ en f j ↔ en ns i ≤ en ns j)
theorem oc_shp {ns f : List Int} (h : Oc ns f) : shp f = shp ns := by
  unfold shp
  rw [h.1]
  refine List.map_congr_left fun p hp => ?_
  have hp' := List.mem_range.mp hp
  have key : ∀ k, k ≤ p → prevLe f p k = prevLe ns p k := by
    intro k
    induction k with
    | zero => intro _; rfl
    | succ k ih =>
      intro hk
      unfold prevLe
      have := h.2 k p (by omega) hp'
      rw [ih (by omega)]
      by_cases z : en ns k ≤ en ns p
      · rw [if_pos z, if_pos (this.mpr z)]
      · rw [if_neg z, if_neg (fun y => z (this.mp y))]
  unfold dist
  rw [key p (Nat.le_refl _)]
theorem best_of_shp {a b : List Int} (h : shp a = shp b) (f : Nat) : ∀ k, f + k < a.length → best a f k = best b f k
  | 0, _ => rfl
  | k + 1, hk => by
    have ih := best_of_shp h f k (by omega)
    obtain ⟨hl, hd⟩ := dist_of_shp h
    have e : lead a (f + k + 1) f = lead b (f + k + 1) f := by
      unfold lead
      rw [hd (f + k + 1) (by omega)]
    rw [lead_best, lead_best] at e
    unfold best
    by_cases z : en a (f + k + 1) < en a (best a f k)
    · rw [if_pos z]
      rw [decide_eq_true z] at e
      rw [if_pos (of_decide_eq_true e.symm)]
    · rw [if_neg z]
      rw [decide_eq_false z] at e
      rw [if_neg (of_decide_eq_false e.symm), ih]
theorem shp_snoc (a : List Int) (x : Int) : (shp (a ++ [x])).take a.length = shp a := by
  unfold shp
  rw [← List.map_take, List.take_range]
  have : min a.length (a ++ [x]).length = a.length := by simp
  rw [this]
  exact List.map_congr_left fun p hp => by rw [dist_app (List.mem_range.mp hp)]
theorem shp_cons (a : List Int) (x : Int) (h : ∀ y ∈ a, y < x) : shp (x :: a) = 0 :: shp a := by
  have en1 : ∀ i, en (x :: a) (i + 1) = en a i := fun i => by simp [en]
  have en0 : en (x :: a) 0 = x := rfl
  have hd : ∀ p, p < a.length → dist (x :: a) (p + 1) = dist a p := by
    intro p hp
    rcases prevLe_spec a p p (Nat.le_refl _) with ⟨j, h1, h2, h3, h4⟩ | ⟨h1, h2⟩
    · have : dist a p = p - j := h4
      rw [this, dist_at (j := j + 1) (by omega) (by rw [en1, en1]; exact h2) (fun i i1 i2 => by
        obtain ⟨i', rfl⟩ : ∃ i', i = i' + 1 := ⟨i - 1, by omega⟩
        rw [en1, en1]
        exact h3 i' (by omega) (by omega))]
      omega
    · have : dist a p = 0 := h2
      rw [this]
      refine dist_none fun i i2 => ?_
      rw [en1]
      cases i with
      | zero => rw [en0]; exact h _ (en_mem hp)
      | succ i => rw [en1]; exact h1 i (by omega)
  unfold shp
  rw [List.length_cons, List.range_succ_eq_map, List.map_cons, List.map_map]
  congr 1
  exact List.map_congr_left fun p hp => by
    show ((dist (x :: a) (p + 1) : Nat) : Int) = _
    rw [hd p (List.mem_range.mp hp)]
end Sh
namespace Dl
open PySem PySem.Spec PyProof.Rows L2 Gd
theorem cutD_mid {ds : List PyData} {a b : Nat} : cutD ds (some (a : Int)) (some (b : Int)) = (ds.drop a).take (b - a) := by
  unfold cutD
  rw [HT.sIx_nat, HT.sIx_nat]
  by_cases h : a ≤ ds.length
  · rw [Nat.min_eq_left h, List.take_eq_take_iff, List.length_drop]
    omega
  · rw [List.drop_eq_nil_of_le (by omega), List.drop_eq_nil_of_le (by omega)]
    simp
theorem cutD_to {ds : List PyData} {b : Nat} : cutD ds none (some (b : Int)) = ds.take b := by
  unfold cutD
  rw [HT.sIx_nat, HT.sIx_none, List.drop_zero, Nat.sub_zero, List.take_eq_take_iff]
  omega
theorem cutD_from {ds : List PyData} {a : Nat} : cutD ds (some (a : Int)) none = ds.drop a := by
  unfold cutD
  rw [HT.sIx_nat, HT.sIx_none]
  by_cases h : a ≤ ds.length
  · rw [Nat.min_eq_left h, List.take_of_length_le (by simp)]
  · rw [List.drop_eq_nil_of_le (by omega), List.drop_eq_nil_of_le (by omega)]
    simp
theorem slT_mid {ds : List PyData} {a b : Nat} {x y : Int} (e : x = a) (e' : y = b) : gSlT (.tuple ds) (some x) (some y) = some (.tuple ((ds.drop a).take (b - a))) := by
  subst e e'
  unfold gSlT
  rw [← cutD_mid]
theorem slT_to {ds : List PyData} {b : Nat} {y : Int} (e' : y = b) : gSlT (.tuple ds) none (some y) = some (.tuple (ds.take b)) := by
  subst e'
  unfold gSlT
  rw [← cutD_to]
theorem slT_from {ds : List PyData} {a : Nat} {x : Int} (e : x = a) : gSlT (.tuple ds) (some x) none = some (.tuple (ds.drop a)) := by
  subst e
  unfold gSlT
  rw [← cutD_from]
theorem slL_mid {ds : List PyData} {a b : Nat} {x y : Int} (e : x = a) (e' : y = b) : gSlL (.list ds) (some x) (some y) = some (.list ((ds.drop a).take (b - a))) := by
  subst e e'
  unfold gSlL
  rw [← cutD_mid]
theorem slL_to {ds : List PyData} {b : Nat} {y : Int} (e' : y = b) : gSlL (.list ds) none (some y) = some (.list (ds.take b)) := by
  subst e'
  unfold gSlL
  rw [← cutD_to]
theorem slL_from {ds : List PyData} {a : Nat} {x : Int} (e : x = a) : gSlL (.list ds) (some x) none = some (.list (ds.drop a)) := by
  subst e
  unfold gSlL
  rw [← cutD_from]
theorem slT_midI {ms : List Int} {a b : Nat} {x y : Int} (e : x = a) (e' : y = b) : gSlT (tupI ms) (some x) (some y) = some (tupI ((ms.drop a).take (b - a))) := by
  rw [slT_mid e e']
  show _ = some (PyData.tuple (List.map dI _))
  rw [List.map_take, List.map_drop]
theorem slT_toI {ms : List Int} {b : Nat} {y : Int} (e' : y = b) : gSlT (tupI ms) none (some y) = some (tupI (ms.take b)) := by
  rw [slT_to e']
  show _ = some (PyData.tuple (List.map dI _))
  rw [List.map_take]
theorem slT_fromI {ms : List Int} {a : Nat} {x : Int} (e : x = a) : gSlT (tupI ms) (some x) none = some (tupI (ms.drop a)) := by
  rw [slT_from e]
  show _ = some (PyData.tuple (List.map dI _))
  rw [List.map_drop]
end Dl
namespace Sh
open PySem PySem.Spec PyProof.Rows L2 Gd Dl
/-- the entries from a on, k + 1 of them -/
def sub (ns : List Int) (a m : Nat) : List Int := (ns.drop a).take m
theorem sub_length {ns : List Int} {a m : Nat} (h : a + m ≤ ns.length) : (sub ns a m).length = m := by
  unfold sub
  rw [List.length_take, List.length_drop]
  omega
theorem en_sub {ns : List Int} {a m i : Nat} (h : i < m) : en (sub ns a m) i = en ns (a + i) := by
  unfold en sub
  rw [List.getD_eq_getElem?_getD, List.getD_eq_getElem?_getD, List.getElem?_take_of_lt h, List.getElem?_drop]
theorem dist_sub {ns : List Int} {a m i : Nat} (h : i < m) : dist (sub ns a m) i = if lead ns (a + i) a = true then 0 else dist ns (a + i) := by
  split
  · rename_i hl
    have hl := (lead_iff ns).mp hl
    refine dist_none fun j hj => ?_
    rw [en_sub h, en_sub (by omega)]
    exact hl (a + j) (by omega) (by omega)
  · rename_i hl
    rcases prevLe_spec ns (a + i) (a + i) (Nat.le_refl _) with ⟨j, h1, h2, h3, h4⟩ | ⟨h1, h2⟩
    · have h4 : dist ns (a + i) = a + i - j := h4
      have hj : a ≤ j := by
        refine Classical.byContradiction fun z => hl ?_
        refine (lead_iff ns).mpr fun q q1 q2 => h3 q (by omega) q2
      rw [h4]
      have := dist_at (ns := sub ns a m) (p := i) (j := j - a) (by omega) (by rw [en_sub (by omega), en_sub h, show a + (j - a) = j by omega]; exact h2) (fun q q1 q2 => by rw [en_sub h, en_sub (by omega)]; exact h3 (a + q) (by omega) (by omega))
      rw [this]
      omega
    · exact (hl ((lead_iff ns).mpr fun q _ q2 => h1 q q2)).elim
theorem shp_sub {ns : List Int} {a m : Nat} (h : a + m ≤ ns.length) : shp (sub ns a m) = (List.range m).map fun i => if lead ns (a + i) a = true then (0 : Int) else (dist ns (a + i) : Nat) := by
  unfold shp
  rw [sub_length h]
  refine List.map_congr_left fun i hi => ?_
  rw [dist_sub (List.mem_range.mp hi)]
  split <;> rfl
end Sh
namespace Dl
open PySem PySem.Spec PyProof.Rows L2 Gd
section
variable {X : Cx} {G : Gx}
/-- xs[j], xs[l] = e -/
def zSwap (i : Nat) (tj tl t : TD) : TSd := fun D E => t E fun d n => match d, E.ρ[i]? with
  | .tuple [x, y], some (.own ds) => tj ⟨E.ρ, n⟩ fun a m => match a with
    | .int k1 => opt (ixN ds.length k1) fun p1 => tl ⟨E.ρ.set i (.own (ds.set p1 x)), m⟩ fun b m2 => match b with
      | .int k2 => opt (ixN ds.length k2) fun p2 => D.nx ⟨E.ρ.set i (.own ((ds.set p1 x).set p2 y)), m2⟩
      | _ => False
    | _ => False
  | _, _ => False
theorem z_swap {i : Nat} {x : Str} {e j l : Expr} {t tj tl : TD} {pos p spos p2 spos2 tpos : Pos} {kt : Nat} (h : PE X (.Name x p) (tVar i)) (h' : PE X (.Name x p2) (tVar i)) (hj : PD X G j tj) (hl : PD X G l tl) (he : PD X G e t)
    (hg : PG X (.Tuple [.Subscript (.Name x p) j spos, .Subscript (.Name x p2) l spos2] kt tpos) (gTup X.K 2 (gCons (gSub (tVar i) (low G RD tj) rSetL) (gCons (gSub (tVar i) (low G RD tl) rSetL) gNil))))
    (hs : swapsWithSole [.Tuple [.Subscript (.Name x p) j spos, .Subscript (.Name x p2) l spos2] kt tpos] e pos.line X.env = pure false := by rfl) (hw : swappedStores [.Tuple [.Subscript (.Name x p) j spos, .Subscript (.Name x p2) l spos2] kt tpos] e X.env = pure none := by rfl)
    (h1 : (assignEach [.Tuple [.Subscript (.Name x p) j spos, .Subscript (.Name x p2) l spos2] kt tpos] X.env).map (·.2) = [assign (.Tuple [.Subscript (.Name x p) j spos, .Subscript (.Name x p2) l spos2] kt tpos) X.env] := by rfl) :
    PZ X G (.Assign [.Tuple [.Subscript (.Name x p) j spos, .Subscript (.Name x p2) l spos2] kt tpos] e pos) (zSwap i tj tl t) := PS.wk (ps_asg he hg hs hw h1) fun D σ H ⟨O, E, Dd, r, k, z⟩ => by
  refine ⟨O, E, _, r, ?_, z⟩
  rintro d n v H1 k1 i1 rv q1
  have r1 := r.step k1 i1
  split at q1
  · rename_i x y ds eo
    obtain ⟨T, xs, rfl, hT, nT, dT⟩ := Dv.unT rv
    cases dT with
    | cons d1 t1 =>
    cases t1 with
    | cons d2 t2 =>
    cases t2
    obtain ⟨a, vs, y1, y2, y3, y4, y5⟩ := r1.own i ds eo
    refine ⟨T, _, rfl, st_of hT, rfl, _, _, rfl, _, y1, O, _, _, r1, ?_, q1⟩
    rintro dj m w H2 k2 i2 rw' q2
    have r2 := r1.step k2 i2
    split at q2
    · rename_i kk
      obtain ⟨pp, e1, q3⟩ := opt_el q2
      obtain ⟨a', vs', w1, w2, w3, w4, w5⟩ := r2.own i ds eo
      rw [y1] at w1
      cases w1
      cases rw'
      refine ⟨a, vs', kk, pp, rfl, rfl, w2, by rw [w5.length]; exact e1, ?_⟩
      obtain ⟨r3, L3⟩ := r2.mut eo y1 y3 y4 (w5.setL (Dv.later (r1.lt k2) d1) pp)
      have eo3 : (E.ρ.set i (.own (ds.set pp x)))[i]? = some (.own (ds.set pp x)) := List.getElem?_set_self (List.getElem?_eq_some_iff.mp eo).1
      refine ⟨_, _, rfl, _, y1, O, _, _, r3, ?_, q3⟩
      rintro dl m2 w' H4 k4 i4 rw2 q4
      have r4 := r3.step k4 i4
      split at q4
      · rename_i kk2
        obtain ⟨pp2, e2, q5⟩ := opt_el q4
        obtain ⟨a', vs2, w1, w2, w3, w4, w5⟩ := r4.own i _ eo3
        rw [y1] at w1
        cases w1
        cases rw2
        have ld2 := Dv.later (r3.lt k4) (Dv.later L3 (Dv.later (r1.lt k2) d2))
        refine ⟨a, vs2, kk2, pp2, rfl, rfl, w2, by rw [w5.length, List.length_set]; exact e2, rfl, ?_⟩
        obtain ⟨r5, L5⟩ := r4.mut eo3 y1 y3 y4 (w5.setL ld2 pp2)
        have r5' := r5
        dsimp only at r5'
        rw [List.set_set] at r5'
        exact k.nx O _ _ _ (((((r.lt k1).trans (r1.lt k2)).trans L3).trans (r3.lt k4)).trans L5) r5' q5
      · exact q4.elim
    · exact q2.elim
  · exact q1.elim
def gMulX : PyData → PyData → Option PyData
  | .int i, .int j => if cMul i j then some (.int (i * j)) else none
  | .tuple a, .int k => gRepT (.tuple a) (.int k)
  | _, _ => none
theorem op2_mulX {K : PySem.W.Frag} : Op2 (fun x y H Q => rI CMul (fun i j => .int (i * j)) x y H Q ∨ rRepT K x y H Q) gMulX := by
  intro O H x y dx dy z Q al bx by' e q
  unfold gMulX at e
  split at e
  · rename_i i j
    refine .inl (op2_I (c := cMul) (C := CMul) (f := fun i j => .int (i * j)) (fun i j h => (of_decide_eq_true h : (-(2 ^ 63) ≤ i ∧ i ≤ 2 ^ 63) ∨ (-(2 ^ 63) ≤ j ∧ j ≤ 2 ^ 63)).elim (fun h => .inl (by constructor <;> omega)) (fun h => .inr (by constructor <;> omega))) (fun i j O H => .int _) O H x y _ _ z Q al bx by' ?_ q)
    exact e
  · rename_i a k
    have e' : (if decide (2 ≤ k ∧ k ≤ 1000 ∧ a.length ≤ 1000 ∧ a ≠ []) = true then some (PyData.tuple (List.replicate k.toNat a).flatten) else none) = some z := e
    split at e'
    · rename_i hc
      cases e'
      have hc := of_decide_eq_true hc
      obtain ⟨p, vs, rfl, h1, d1, w⟩ := bx.tup
      have l := d1.length
      refine .inr ⟨p, k, vs, rfl, by'.int, st_of h1, fun z => ?_, hc.1, hc.2.1, by omega, fun r hr => nw_tup al q hr (d1.repL _)⟩
      subst z
      cases d1
      exact hc.2.2.2 rfl
    · cases e'
  · cases e
theorem pd_mulX {a b : Expr} {ta tb : TD} {pos : Pos} (ha : PB X G a ta) (hb : PB X G b tb) : PD X G (.BinOp a .Mult b pos) (dOp gMulX ta tb) := PE.wk (pe_op (op_mul.or op_repT) ha hb) (dop op2_mulX)
theorem mul_tupI {ns : List Int} {k : Nat} {x : Int} (e : x = k) (h2 : 2 ≤ k) (hk : k ≤ 1000) (h0 : ns ≠ []) (hl : ns.length ≤ 1000) : gMulX (tupI ns) (.int x) = some (tupI (List.replicate k ns).flatten) := by
  subst e
  show gRepT (tupI ns) (.int (k : Int)) = _
  unfold gRepT
  have : decide (2 ≤ (k : Int) ∧ (k : Int) ≤ 1000 ∧ (ns.map dI).length ≤ 1000 ∧ ns.map dI ≠ []) = true := decide_eq_true ⟨by omega, by omega, by simpa using hl, by simpa using h0⟩
  show (if decide (2 ≤ (k : Int) ∧ (k : Int) ≤ 1000 ∧ (ns.map dI).length ≤ 1000 ∧ ns.map dI ≠ []) then _ else _) = _
  rw [this, if_pos rfl]
  show _ = some (PyData.tuple (List.map dI _))
  rw [List.map_flatten, List.map_replicate, Int.toNat_natCast]
end
end Dl
namespace Dl
open PySem PySem.Spec PyProof.Rows L2 Gd
theorem mul_int' {i j : Int} (h1 : -(2 ^ 63) ≤ i) (h2 : i ≤ 2 ^ 63) : gMulX (.int i) (.int j) = some (.int (i * j)) := by
  show (if cMul i j = true then _ else _) = _
  rw [show cMul i j = true from decide_eq_true (.inl ⟨h1, h2⟩), if_pos rfl]
theorem mul_intR {i j : Int} (h1 : -(2 ^ 63) ≤ j) (h2 : j ≤ 2 ^ 63) : gMulX (.int i) (.int j) = some (.int (i * j)) := by
  show (if cMul i j = true then _ else _) = _
  rw [show cMul i j = true from decide_eq_true (.inr ⟨h1, h2⟩), if_pos rfl]
end Dl
namespace Dl
open PySem PySem.Spec PyProof.Rows L2 Gd
/-- a comprehension over encoded items -/
theorem lc_M {α : Type} {tg : Tg} {tt : TDt} {te : TD} {ρ0 : List Sl} {Q : PyData → Nat → Prop} (xs : List α) (e : α → PyData) (p : α → Bool) (f : α → PyData) {n : Nat}
    (h : ∀ x ∈ xs, ∃ ρ, tg.put (e x) ρ0 = some ρ ∧ (∀ (n : Nat) (R : Bool → Nat → Prop), R (p x) n → tt ⟨ρ, n⟩ R) ∧ (p x = true → ∀ (n : Nat) (R : PyData → Nat → Prop), R (f x) n → te ⟨ρ, n⟩ R)) (hl : xs.length ≤ 100000) (q : Q (.list ((xs.filter p).map f)) n) : dLcL tg tt te ρ0 Q (xs.map e) [] n := by
  refine lc_I _ (fun i acc m => acc = ((xs.take i).filter p).map f ∧ m = n) ⟨by simp, rfl⟩ (fun i d acc m K hd hI nx => ?_) (fun acc m hI => ?_)
  · obtain ⟨rfl, rfl⟩ := hI
    rw [List.getElem?_map, Option.map_eq_some_iff] at hd
    obtain ⟨x, hx, rfl⟩ := hd
    obtain ⟨ρ, h1, h2, h3⟩ := h x (List.mem_of_getElem? hx)
    refine opt_of h1 (h2 _ _ ?_)
    have hi := (List.getElem?_eq_some_iff.mp hx).1
    have et : xs.take (i + 1) = xs.take i ++ [x] := by rw [List.take_succ, hx]; rfl
    cases hp : p x with
    | true =>
      rw [if_pos rfl]
      refine h3 hp _ _ ⟨?_, nx _ _ ⟨?_, rfl⟩⟩
      · have l1 := List.length_filter_le p (xs.take i)
        rw [List.length_map]
        have l2 : (xs.take i).length ≤ i := by rw [List.length_take]; omega
        omega
      · rw [et, List.filter_append, List.map_append]
        simp [hp]
    | false =>
      rw [if_neg (by decide)]
      refine nx _ _ ⟨?_, rfl⟩
      rw [et, List.filter_append, List.map_append]
      simp [hp]
  · obtain ⟨rfl, rfl⟩ := hI
    rw [List.length_map, List.take_length]
    exact q
theorem lc_M0 {α : Type} {tg : Tg} {tt : TDt} {te : TD} {ρ0 : List Sl} {Q : PyData → Nat → Prop} (xs : List α) (e : α → PyData) (f : α → PyData) {n : Nat}
    (h : ∀ x ∈ xs, ∃ ρ, tg.put (e x) ρ0 = some ρ ∧ (∀ (n : Nat) (R : Bool → Nat → Prop), R true n → tt ⟨ρ, n⟩ R) ∧ (∀ (n : Nat) (R : PyData → Nat → Prop), R (f x) n → te ⟨ρ, n⟩ R)) (hl : xs.length ≤ 100000) (q : Q (.list (xs.map f)) n) : dLcL tg tt te ρ0 Q (xs.map e) [] n := by
  refine lc_M xs e (fun _ => true) f (fun x hx => ?_) hl (by rw [List.filter_eq_self.mpr (fun _ _ => rfl)]; exact q)
  obtain ⟨ρ, h1, h2, h3⟩ := h x hx
  exact ⟨ρ, h1, h2, fun _ => h3⟩
theorem enumFrom_map {α : Type} (e : α → PyData) : ∀ (xs : List α) (k : Nat), enumFrom k (xs.map e) = (List.range xs.length).map fun i => .tuple [.int ((k + i : Nat) : Int), (xs.map e).getD i .none]
  | [], k => rfl
  | x :: r, k => by
    rw [List.map_cons, enumFrom, enumFrom_map e r (k + 1), List.length_cons, List.range_succ_eq_map, List.map_cons, List.map_map]
    refine congr (congrArg _ rfl) (List.map_congr_left fun i _ => ?_)
    show _ = PyData.tuple [.int ((k + (i + 1) : Nat) : Int), _]
    rw [show k + 1 + i = k + (i + 1) by omega]
    rfl
theorem enumD_map {α : Type} (e : α → PyData) (xs : List α) : enumD (xs.map e) = (List.range xs.length).map fun i => .tuple [.int (i : Nat), (xs.map e).getD i .none] := by
  unfold enumD
  rw [enumFrom_map e xs 0]
  refine List.map_congr_left fun i _ => ?_
  rw [Nat.zero_add]
end Dl
/-! ### claims -/
namespace Cl
open PySem PySem.Spec PyProof.Rows L2 Gd Dl Sh
structure Cm where
  f : Nat
  l : Nat
  p : Nat
deriving DecidableEq
def Cm.enc (c : Cm) : PyData := .tuple [.int c.f, .int c.l, .int c.p]
def Cm.ok (m : Nat) (c : Cm) : Prop := c.f ≤ c.p ∧ c.p ≤ c.l ∧ c.l < m
abbrev encs (cs : List Cm) : PyData := .tuple (cs.map Cm.enc)
def holds (ns : List Int) (c : Cm) : Bool := decide (best ns c.f (c.l - c.f) = c.p)
theorem Cm.fit {c : Cm} {m : Nat} (h : c.ok m) (hm : m ≤ 60) : Fit 460 1 c.enc := by
  obtain ⟨h1, h2, h3⟩ := h
  exact (fit_tupI (ns := [(c.f : Int), (c.l : Int), (c.p : Int)]) (m := 3) (fun x hx => by
    simp only [List.mem_cons, List.not_mem_nil, or_false] at hx
    rcases hx with rfl | rfl | rfl <;> omega) (by simp)).mono (by decide) (by decide)
theorem encs_fit {cs : List Cm} {m k : Nat} (h : ∀ c ∈ cs, c.ok m) (hm : m ≤ 60) (hk : cs.length ≤ k) : Fit (461 * k) 2 (encs cs) := by
  refine fit_tup (w := 460) (k := 1) (fun d hd => ?_) ?_
  · obtain ⟨c, hc, rfl⟩ := List.mem_map.mp hd
    exact Cm.fit (h c hc) hm
  · rw [List.length_map]
    exact Nat.mul_le_mul_left _ hk
/-- the claims that do not hold, among the first i -/
def brk (ns : List Int) (cs : List Cm) (i : Nat) : List Int := ((List.range i).filter fun j => !holds ns (cs.getD j ⟨0, 0, 0⟩)).map fun j : Nat => (j : Int)
theorem brk_succ (ns : List Int) (cs : List Cm) (i : Nat) : brk ns cs (i + 1) = brk ns cs i ++ if holds ns (cs.getD i ⟨0, 0, 0⟩) then [] else [(i : Int)] := by
  unfold brk
  rw [List.range_succ, List.filter_append, List.map_append]
  congr 1
  rw [List.filter_cons, List.filter_nil]
  cases holds ns (cs.getD i ⟨0, 0, 0⟩) <;> rfl
theorem brk_mem {ns : List Int} {cs : List Cm} {i : Nat} {x : Int} (h : x ∈ brk ns cs i) : 0 ≤ x ∧ x < i := by
  unfold brk at h
  obtain ⟨j, hj, rfl⟩ := List.mem_map.mp h
  have := List.mem_range.mp (List.mem_filter.mp hj).1
  omega
theorem brk_len {ns : List Int} {cs : List Cm} {i : Nat} : (brk ns cs i).length ≤ i := by
  unfold brk
  rw [List.length_map]
  have := List.length_filter_le (fun j => !holds ns (cs.getD j ⟨0, 0, 0⟩)) (List.range i)
  rw [List.length_range] at this
  exact this
theorem getD_map {α : Type} {e : α → PyData} {xs : List α} {i : Nat} {x0 : α} (h : i < xs.length) : (xs.map e).getD i .none = e (xs.getD i x0) := by
  rw [List.getD_eq_getElem?_getD, List.getD_eq_getElem?_getD, List.getElem?_map, List.getElem?_eq_getElem h]
  rfl
theorem getD_mem {α : Type} {xs : List α} {i : Nat} {x0 : α} (h : i < xs.length) : xs.getD i x0 ∈ xs := by
  rw [List.getD_eq_getElem?_getD, List.getElem?_eq_getElem h]
  exact List.getElem_mem h
end Cl
namespace Dl
open PySem PySem.Spec PyProof.Rows L2 Gd
theorem eqv_nil : ∀ ds : List PyData, PyData.eqvAll ds [] = decide (ds = [])
  | [] => by rw [PyData.eqvAll]; rfl
  | d :: ds => by rw [PyData.eqvAll]; exact (decide_eq_false (fun z => by cases z)).symm
/-- data that can be compared: no dicts, and no deeper than k -/
structure Pln (k : Nat) (d : PyData) : Prop where
  cl : d.canLay0 = true
  dp : d.depth ≤ k
theorem Pln.mono {k k' : Nat} {d : PyData} (h : Pln k d) (hk : k ≤ k') : Pln k' d := ⟨h.cl, Nat.le_trans h.dp hk⟩
theorem pln_int {i : Int} : Pln 0 (.int i) := ⟨by rw [PyData.canLay0], by rw [PyData.depth]; exact Nat.le_refl _⟩
theorem pln_bool {b : Bool} : Pln 0 (.bool b) := ⟨by rw [PyData.canLay0], by rw [PyData.depth]; exact Nat.le_refl _⟩
theorem pln_non : Pln 0 .none := ⟨by rw [PyData.canLay0], by rw [PyData.depth]; exact Nat.le_refl _⟩
theorem pln_all {k : Nat} : ∀ {ds : List PyData}, (∀ d ∈ ds, Pln k d) → PyData.canLayAll0 ds = true ∧ PyData.depthAll ds ≤ k
  | [], _ => ⟨by rw [PyData.canLayAll0], by rw [PyData.depthAll]; exact Nat.zero_le _⟩
  | d :: ds, h => by
    obtain ⟨h1, h2⟩ := pln_all fun x hx => h x (List.mem_cons_of_mem _ hx)
    have h3 := h d List.mem_cons_self
    exact ⟨by rw [PyData.canLayAll0, h3.cl, h1]; rfl, by rw [PyData.depthAll]; exact Nat.max_le.mpr ⟨h3.dp, h2⟩⟩
theorem pln_tup {k : Nat} {ds : List PyData} (h : ∀ d ∈ ds, Pln k d) : Pln (k + 1) (.tuple ds) := by
  obtain ⟨h1, h2⟩ := pln_all h
  exact ⟨by rw [PyData.canLay0]; exact h1, by rw [PyData.depth]; omega⟩
theorem pln_lst {k : Nat} {ds : List PyData} (h : ∀ d ∈ ds, Pln k d) : Pln (k + 1) (.list ds) := by
  obtain ⟨h1, h2⟩ := pln_all h
  exact ⟨by rw [PyData.canLay0]; exact h1, by rw [PyData.depth]; omega⟩
theorem pln_tupI {ns : List Int} : Pln 1 (tupI ns) := pln_tup fun d hd => by
  obtain ⟨x, _, rfl⟩ := List.mem_map.mp hd
  exact pln_int
theorem Pln.sh {k : Nat} {d : PyData} (h : Pln k d) (hk : k ≤ 64) : SeqAt.shaped d = true := by
  unfold SeqAt.shaped
  rw [h.cl, decide_eq_true (Nat.le_trans h.dp hk)]
  rfl
theorem eq_data {neg : Bool} {x y : PyData} {k : Nat} (hx : Pln k x) (hy : Pln k y) (hk : k ≤ 64) : gEq neg x y = some (.bool (neg != PyData.eqv x y)) := by
  unfold gEq
  split
  · rw [PyData.eqv]
    rfl
  · rename_i i j
    rw [PyData.eqv]
    congr 3
  · rw [hx.sh hk, hy.sh hk]
    rfl
theorem eqvAll_map {α : Type} [DecidableEq α] (e : α → PyData) : ∀ (xs ys : List α), (∀ x ∈ xs, ∀ y ∈ ys, PyData.eqv (e x) (e y) = decide (x = y)) → PyData.eqvAll (xs.map e) (ys.map e) = decide (xs = ys)
  | [], [], _ => by rw [List.map_nil, PyData.eqvAll]; rfl
  | [], y :: ys, _ => by rw [List.map_nil, List.map_cons, PyData.eqvAll]; exact (decide_eq_false (fun z => by cases z)).symm
  | x :: xs, [], _ => by rw [List.map_nil, List.map_cons, PyData.eqvAll]; exact (decide_eq_false (fun z => by cases z)).symm
  | x :: xs, y :: ys, h => by
    rw [List.map_cons, List.map_cons, PyData.eqvAll, h x List.mem_cons_self y List.mem_cons_self, eqvAll_map e xs ys fun a ha b hb => h a (List.mem_cons_of_mem _ ha) b (List.mem_cons_of_mem _ hb)]
    rw [Bool.eq_iff_iff]
    simp
theorem eq_nilL {neg : Bool} {ds : List PyData} {k : Nat} (h : ∀ d ∈ ds, Pln k d) (hk : k ≤ 63) : gEq neg (.list ds) (.list []) = some (.bool (neg != decide (ds = []))) := by
  rw [eq_data (k := k + 1) (pln_lst h) (pln_lst fun d hd => by cases hd) (by omega), PyData.eqv, eqv_nil]
end Dl
namespace Cl
open PySem PySem.Spec PyProof.Rows L2 Gd Dl Sh
theorem Cm.pln (c : Cm) : Pln 1 c.enc := pln_tup fun d hd => by
  simp only [List.mem_cons, List.not_mem_nil, or_false] at hd
  rcases hd with rfl | rfl | rfl <;> exact pln_int
end Cl
namespace Dl
open PySem PySem.Spec PyProof.Rows L2 Gd Cl
theorem lc_E {α : Type} {tg : Tg} {tt : TDt} {te : TD} {ρ0 : List Sl} {Q : PyData → Nat → Prop} (xs : List α) (e : α → PyData) (x0 : α) (p : Nat → α → Bool) (f : Nat → α → PyData) {n : Nat}
    (h : ∀ i, i < xs.length → ∃ ρ, tg.put (.tuple [.int (i : Nat), e (xs.getD i x0)]) ρ0 = some ρ ∧ (∀ (n : Nat) (R : Bool → Nat → Prop), R (p i (xs.getD i x0)) n → tt ⟨ρ, n⟩ R) ∧ (p i (xs.getD i x0) = true → ∀ (n : Nat) (R : PyData → Nat → Prop), R (f i (xs.getD i x0)) n → te ⟨ρ, n⟩ R)) (hl : xs.length ≤ 100000)
    (q : Q (.list (((List.range xs.length).filter fun i => p i (xs.getD i x0)).map fun i => f i (xs.getD i x0))) n) : dLcL tg tt te ρ0 Q (enumD (xs.map e)) [] n := by
  rw [enumD_map]
  refine lc_M (List.range xs.length) _ (fun i => p i (xs.getD i x0)) (fun i => f i (xs.getD i x0)) (fun i hi => ?_) (by rw [List.length_range]; exact hl) q
  have hi := List.mem_range.mp hi
  rw [getD_map (x0 := x0) hi]
  exact h i hi
end Dl
namespace Dl
open PySem PySem.Spec PyProof.Rows L2 Gd Cl
theorem add_tupD {a b : List PyData} (h : a.length + b.length ≤ 100000) : gAdd (.tuple a) (.tuple b) = some (.tuple (a ++ b)) := by
  show (if small2 a b = true then some (PyData.tuple (a ++ b)) else none) = _
  rw [show small2 a b = true from decide_eq_true h, if_pos rfl]
theorem add_encs {a b : List Cm} (h : a.length + b.length ≤ 100000) : gAdd (encs a) (encs b) = some (encs (a ++ b)) := by
  rw [add_tupD (by rw [List.length_map, List.length_map]; exact h), ← List.map_append]
theorem add_lstD {a b : List PyData} (h : a.length + b.length ≤ 100000) : gAdd (.list a) (.list b) = some (.list (a ++ b)) := by
  show (if small2 a b = true then some (PyData.list (a ++ b)) else none) = _
  rw [show small2 a b = true from decide_eq_true h, if_pos rfl]
end Dl
namespace Dl
open PySem PySem.Spec PyProof.Rows L2 Gd
section
variable {X : Cx} {G : Gx}
/-- x, y = data, a new list -/
def zParR (i j : Nat) (td tl : TD) : TSd := fun D E => td E fun x n => tl ⟨E.ρ, n⟩ fun d m => match d with | .list ds => D.nx ⟨(E.ρ.set i (.dat x)).set j (.own ds), m⟩ | _ => False
theorem z_parR {i j : Nat} {x y : Str} {a b : Expr} {tl td : TD} {px py pt pos : Pos} {kt k2 pt2} (hc : X.calm = true) (hN : X.N.Nodup) (hi : X.N[i]? = some x) (hj : X.N[j]? = some y) (hij : i ≠ j)
    (hx : X.env.scope.names.lookup x = some .local) (hy : X.env.scope.names.lookup y = some .local) (ha : PD X G a td) (hb : PL X G b tl)
    (hw : swappedStores [.Tuple [.Name x px, .Name y py] kt pt] (.Tuple [a, b] k2 pt2) X.env = pure (some [x, y]))
    (hs : swapsWithSole [.Tuple [.Name x px, .Name y py] kt pt] (.Tuple [a, b] k2 pt2) pos.line X.env = pure false := by rfl) (hs1 : starEach [a, b] X.env = (false, eval a X.env) :: starEach [b] X.env := by rfl) (hs2 : starEach [b] X.env = (false, eval b X.env) :: starEach [] X.env := by rfl) :
    PZ X G (.Assign [.Tuple [.Name x px, .Name y py] kt pt] (.Tuple [a, b] k2 pt2) pos) (zParR i j td tl) := PS.wk (ps_par hc hN hi hj hij hx hy (pa_cons ha (pa_cons hb pa_nil hs2) hs1) hw hs) fun D σ H ⟨O, E, Dd, r0, k0, z⟩ => by
  refine ⟨O, E, _, r0, ?_, z⟩
  rintro x n v H0 k00 i00 rv q0
  have r := r0.step k00 i00
  have k := k0.later (r0.lt k00)
  refine ⟨O, _, _, r, ?_, q0⟩
  rintro d m v2 H1 k1 i1 ⟨a, vs, ds, rfl, rfl, e3, e4, e5⟩ q1
  have r1 := r.step k1 i1
  have nO : ¬ O a := fun y => r.al a y e3
  have nS : ¬ G.F.S a := fun y => nO (r.sO a y)
  have hs0 : G.Hs a = none := by
    cases e0 : G.Hs a with
    | none => rfl
    | some u =>
      by_cases qs : G.F.S a
      · exact (nS qs).elim
      · exact (Stay.ne (r.kp a u e0 qs) e3).elim
  have L1 : Later O H0 (fun x => O x ∨ x = a) H1 := ⟨fun x y => y.elim .inl fun y => .inr (y ▸ e3), fun x u y ny => (r.lt k1).h x u y ny⟩
  have r2 : Rel G (fun x => O x ∨ x = a) σ H1 ⟨E.ρ, m⟩ := by
    refine ⟨r1.len, fun j d e => ?_, fun j es e => ?_, r1.dif, r1.con, i1, fun x y => .inl (r1.bo x y), fun x y => y.elim (r1.on x) fun y => y ▸ r.free e3, r1.aB.or e4 rfl, r1.kp, r.od.mv (fun _ _ z => Dv.later L1 z) fun _ _ b o _ _ e ob sb nl => ⟨(k1 _ _ e (fun y => G.hb b (G.sb b y) sb)).eq nl.2, .inl ob⟩⟩
    · obtain ⟨v, y1, y2⟩ := r.dat j d e
      exact ⟨v, y1, Dv.later L1 y2⟩
    · obtain ⟨b, ws, y1, y2, y3, y4, y5⟩ := r.own j es e
      exact ⟨b, ws, y1, k1 _ _ y2 (fun y => G.hb b (G.sb b y) y4), .inl y3, y4, y5.later L1⟩
  have r3 := r2.set (i := i) (Dv.later L1 rv)
  refine ⟨_, _, rfl, k.nx _ _ H1 _ L1 (r3.setOwn (i := j) e4 hs0 (.inr rfl) e5 fun j' dj nj ej y => ?_) q1⟩
  have hij' : j' ≠ i := fun e => by
    subst e
    dsimp only at ej
    rw [List.getElem?_set] at ej
    simp only [if_true] at ej
    split at ej
    · cases ej
    · cases ej
  dsimp only at ej
  rw [List.getElem?_set_ne (fun e => hij' e.symm)] at ej
  rw [List.getElem?_set_ne (fun e => hij' e.symm)] at y
  obtain ⟨b, ws, y1, y2, y3, _⟩ := r.own j' dj ej
  rw [y] at y1
  cases y1
  exact nO y3
end
end Dl
namespace Dl
open PySem PySem.Spec PyProof.Rows L2 Gd
section
variable {X : Cx} {G : Gx}
def gIntB : PyData → Option PyData
  | .int i => some (.int i)
  | .bool b => some (.int (if b then 1 else 0))
  | _ => none
theorem pd_intB {a : Expr} {ta : TD} {p pos : Pos} (ha : PB X G a ta) (hm : X.mg "int" = none) (hg : Gl X "int" := by rfl) (hs : starEach [a] X.env = (false, eval a X.env) :: starEach [] X.env := by rfl) : PD X G (.Call (.Name "int" p) [a] [] pos) (dUn gIntB ta) :=
  PE.wk (pe_callTy call_int1 hg hm (by decide +kernel) (pa_cons ha pa_nil hs) (he := hs)) (cl1 (by
    intro O H x dx z Q al bx e q
    unfold gIntB at e
    split at e
    · cases e
      exact .inl ⟨_, by rw [bx.int], nw_now q (.int _)⟩
    · cases e
      exact .inr ⟨_, by rw [bx.bl], nw_now q (.int _)⟩
    · cases e))
end
theorem gMinL_val {ns : List Int} (h : ns ≠ []) : gMinL (lstI ns) = some (.int (minI ns)) := by
  show ((intsOf (ns.map dI)).bind fun ns => (if ns = [] then none else some (minI ns)).map dI) = _
  rw [intsOf_map]
  show (if ns = [] then none else some (minI ns)).map dI = _
  rw [if_neg h]
  rfl
theorem gMaxL_val {ns : List Int} (h : ns ≠ []) : gMaxL (lstI ns) = some (.int (maxI ns)) := by
  show ((intsOf (ns.map dI)).bind fun ns => (if ns = [] then none else some (maxI ns)).map dI) = _
  rw [intsOf_map]
  show (if ns = [] then none else some (maxI ns)).map dI = _
  rw [if_neg h]
  rfl
end Dl
namespace Dl
open PySem PySem.Spec PyProof.Rows L2 Gd
theorem gMinL_cons {x : Int} {ns : List Int} : gMinL (.list (.int x :: ns.map dI)) = some (.int (minI (x :: ns))) := gMinL_val (ns := x :: ns) (fun z => by cases z)
theorem gMaxL_cons {x : Int} {ns : List Int} : gMaxL (.list (.int x :: ns.map dI)) = some (.int (maxI (x :: ns))) := gMaxL_val (ns := x :: ns) (fun z => by cases z)
end Dl
namespace Dl
open PySem PySem.Spec PyProof.Rows L2 Gd
theorem rep_zero {m : Nat} {x : Int} (h : m ≤ 1000) : gRepL (.list [.int x]) (.int (m : Nat)) = some (lstI (List.replicate m x)) := by
  show (if decide (((m : Nat) : Int) ≤ 1000 ∧ -1000 ≤ ((m : Nat) : Int) ∧ [PyData.int x].length ≤ 100) = true then some (PyData.list (List.replicate ((m : Nat) : Int).toNat [PyData.int x]).flatten) else none) = _
  rw [decide_eq_true ⟨by omega, by omega, by simp⟩, if_pos rfl, Int.toNat_natCast]
  congr 2
  induction m with
  | zero => rfl
  | succ m ih =>
    rw [List.replicate_succ, List.flatten_cons, ih (by omega), List.replicate_succ]
    rfl
end Dl
namespace Dl
open PySem PySem.Spec PyProof.Rows L2 Gd
theorem eq_self {s : Str} : gEq false (.str s) (.str s) = some (.bool true) := by
  unfold gEq
  simp
end Dl
/-! defs that ask repr -/
namespace Dl
open PySem PySem.Spec PyProof.Rows L2 Gd
section
variable {X : Cx} {CX : CXT} {k : Nat} {f : Addr} {fd : FuncData} {ps : List Str} {sp : Sp} {ds : List Value} {dvs : List V} {E : XK}
theorem run_fnG {pins : List (Addr × Obj)} {σ : L2.St} {H : Hp} {s : Shared} {Q : VK} {us : List Value} {vs : List V} (F : FnG X.prog X.w X.K X.mg X.base CX k f fd ps sp) (hr : Room k X.A) (gd : X.A.guards = some []) (hb : Binds X.K fd ps []) (hx : Passes CX X E)
    (I : Inv X pins σ H s) (r : Vals vs us) (h : sp vs H Q E) : wpAny (model X.prog X.w) X.A (call (.ref f) us) (EP X pins σ Q) X.xe s := by
  have hl : us.length = ps.length := by rw [← r.length]; exact F.len _ _ _ _ h
  have b := hb s us I.kIn (by rw [List.append_nil]; exact hl)
  rw [List.append_nil] at b
  refine wpAny_call (codeAny_mono (F.run X.A X.stack s H ⟨us, []⟩ us vs Q E hr gd I.env0 b r h) fun r s' hq => ?_)
  cases r with
  | error e => exact hx pins σ H s e s' I hq
  | ok fl =>
    cases fl with
    | ret u => exact I.after hq
    | next => exact False.elim hq
    | brk => exact False.elim hq
    | cont => exact False.elim hq
def tCallG (sp : Sp) (E : XK) (t : TA) : TE := fun σ H Q => t σ H fun vs H1 => sp vs H1 Q E
theorem pe_callG {x : Str} {p pos : Pos} {e : Expr} {es : List Expr} {t : TA} (F : FnG X.prog X.w X.K X.mg X.base CX k f fd ps sp) (hr : Room k X.A) (gd : X.A.guards = some []) (hg : Gl X x) (hm : X.mg x = some (.ref f)) (hk : PySem.W.keepIn X.K (.ref f) = true) (hb : Binds X.K fd ps []) (hx : Passes CX X E)
    (ha : PA X (e :: es) t) (hdb : (x == ("__debug__" : Str)) = false := by decide) (he : starEach (e :: es) X.env = (false, eval e X.env) :: starEach es X.env := by rfl) (hpl : (backTo pos (starEach es X.env)).any (·.1) = false := by rfl) :
    PE X (.Call (.Name x p) (e :: es) [] pos) (tCallG sp E t) := by
  refine ⟨fun pins s σ H Q I h => ?_⟩
  refine wpAny_Call_Name_kw (ld_glob I hg hm ?_ hdb)
  refine PySem.W.callWith_K (h₀ := X.base) I.ok.mod.kin hk (thn (ha.run pos pins s σ H _ I h) fun us s1 ⟨vs, H1, I1, r, q⟩ => ⟨I1.kIn, ?_⟩) he hpl
  exact run_fnG F hr gd hb hx I1 r q
end
section
variable {X : Cx} {G : Gx}
theorem pd_callG {k m : Nat} {f : Addr} {fd : FuncData} {ps : List Str} {C : Con} {x : Str} {p pos : Pos} {e : Expr} {es : List Expr} {ts : TDa} (F : FnG X.prog X.w X.K X.mg X.base CX0 k f fd ps (spD C m)) (hr : Room k X.A) (gd : X.A.guards = some []) (hm : X.mg x = some (.ref f)) (hk : PySem.W.keepIn X.K (.ref f) = true) (hb : Binds X.K fd ps [])
    (ha : PR X G (e :: es) ts) (hg : Gl X x := by rfl) (hdb : (x == ("__debug__" : Str)) = false := by decide) (he : starEach (e :: es) X.env = (false, eval e X.env) :: starEach es X.env := by rfl) (hpl : (backTo pos (starEach es X.env)).any (·.1) = false := by rfl) :
    PD X G (.Call (.Name x p) (e :: es) [] pos) (dCall G.F C m ts) := PE.wk (pe_callG F hr gd hg hm hk hb pass0 ha hdb he hpl) fun σ H Q ⟨O, E, Qd, r, im, z⟩ => by
  refine ⟨O, E, _, r, ?_, z⟩
  rintro as n vs H1 k1 i1 rv ⟨q0, q1⟩
  have r1 := r.step k1 i1
  exact ⟨rv.length.trans q0, G.F, O, as, n, _, r.sO, r1.aB, rv, i1, fun d n' v H' k2 i2 dv q2 => im d n' v H' (k1.trans k2) i2 dv q2, q1⟩
theorem pd_isi_str {a : Expr} {ta : TD} {p p2 pos : Pos} (ha : PB X G a ta) (hm : X.mg "isinstance" = none) (ht : X.mg "str" = none) (hg : Gl X "isinstance" := by rfl) (hgt : Gl X "str" := by rfl) (hs : starEach [a, .Name "str" p2] X.env = (false, eval a X.env) :: starEach [.Name "str" p2] X.env := by rfl)
    (hs2 : starEach [.Name "str" p2] X.env = (false, eval (.Name "str" p2) X.env) :: starEach [] X.env := by rfl) (hpl : (backTo pos (starEach [.Name "str" p2] X.env)).any (·.1) = false := by rfl) : PD X G (.Call (.Name "isinstance" p) [a, .Name "str" p2] [] pos) (dUn (gIsi "str") ta) :=
  isi_core kit_str (pe_bltn (v := .ty "str") hgt ht (by decide +kernel) rfl) ha hm hg hs hs2 hpl
end
section
variable {P : Program} {w : World} {K : PySem.W.Frag} {mg : Str → Option Value} {base : Heap}
theorem okDG {x qual : Str} {st : Stmt} {f : Addr} {fd : FuncData} {N ps : List Str} {k : Nat} {C : Con} {t : Gx → TSd} (F : Fun K x qual st f fd) (S : FnScope N ps (defScope st))
    (der : ∀ (G : Gx) (cdv : Value) (A : Around) (fr : List Env) (s : Shared) (H : Hp) (E : XK), Room k (A.deeper (envOfC qual (defScope st) s.heap.objs.size f cdv)) → (A.deeper (envOfC qual (defScope st) s.heap.objs.size f cdv)).guards = some [] → PZs (cxOf CX0 P w K mg base N qual (defScope st) f cdv A fr s H E).nox G (defBody st) (t G))
    (sem : ∀ (G : Gx) (as : List Ar) (n : Nat) (Qd : PyData → Nat → Prop), as.length = ps.length → C G.F as n Qd → t G { nx := fun E => Qd .none E.n, rt := Qd } ⟨as.map Ar.sl ++ List.replicate (N.length - ps.length) Sl.no, n⟩) :
    FnG P w K mg base CX0 (k + 1) f fd ps (spD C ps.length) := by
  refine fnG_of F S (fun vs H Q E h => h.1) (fun cdv A fr s H vs Q E hr hg h => ?_)
  obtain ⟨hl, F', B, as, n, Qd, sb, hb, hv, i, im, c⟩ := h
  refine ⟨_, der ⟨F', B, H, sb, hb⟩ cdv A fr s H E hr hg, B, _, _, rel_start (G := ⟨F', B, H, sb, hb⟩) hv rfl i, ?_, by have := sem ⟨F', B, H, sb, hb⟩ as n Qd (hv.length.symm.trans hl) c; rw [← hl] at this; exact this⟩
  exact ⟨fun O' σ' H' E' l r q => im .none E'.n .non H' r.kp r.str .non q, fun v H' d n k i dv q => im d n v H' k i dv q, fun _ _ _ _ _ _ q => q.elim, fun _ _ _ _ _ _ q => q.elim⟩
structure CdG (P : Program) (w : World) (K : PySem.W.Frag) (mg : Str → Option Value) (base : Heap) (k : Nat) (x : Str) (f : Addr) (fd : FuncData) (ps : List Str) (C : Con) : Prop where
  G : FnG P w K mg base CX0 k f fd ps (spD C ps.length)
  kp : PySem.W.keepIn K (.ref f) = true
  b : Binds K fd ps []
  g : mg x = some (.ref f)
theorem FnG.mono {CX : CXT} {j k : Nat} {f : Addr} {fd : FuncData} {ps : List Str} {sp : Sp} (F : FnG P w K mg base CX j f fd ps sp) (h : j ≤ k) : FnG P w K mg base CX k f fd ps sp :=
  ⟨F.len, fun A fr s H ar us vs Q E hr => F.run A fr s H ar us vs Q E (hr.mono h)⟩
theorem CdG.mono {j k : Nat} {x : Str} {f : Addr} {fd : FuncData} {ps : List Str} {C : Con} (c : CdG P w K mg base j x f fd ps C) (h : j ≤ k) : CdG P w K mg base k x f fd ps C := ⟨FnG.mono c.G h, c.kp, c.b, c.g⟩
theorem fnG_false {k m : Nat} {f : Addr} {fd : FuncData} {ps : List Str} {C : Con} (hm : m = ps.length) (h : ∀ F as n Q, ¬ C F as n Q) : FnG P w K mg base CX0 k f fd ps (spD C m) :=
  ⟨fun vs H Q E q => q.1.trans hm, fun A outer s H args us vs Q E _ _ _ _ _ ⟨_, F, B, as, n, Qd, _, _, _, _, _, c⟩ => (h F as n Qd c).elim⟩
end
end Dl
namespace Dl
open PySem PySem.Spec PyProof.Rows L2 Gd
theorem units65 {k : Nat} {A : Around} (r : Room k A) : A.units + 65 < cLine := by have := r.un; omega
def rInX (K : PySem.W.Frag) (neg : Bool) : R2 := fun x y H Q => ∃ d ds, Dp K H x d ∧ (Dp K H y (.list ds) ∨ Dp K H y (.tuple ds)) ∧ SeqAt.shaped d = true ∧ SeqAt.shaped (.list ds) = true ∧ Q (.bl (neg != ds.any fun z => PyData.eqv z d)) H
section
variable {X : Cx} {G : Gx}
theorem op_inX (hu : X.A.units + 65 < cLine) : OpR X (compareOp .In) (rInX X.K false) := by
  intro pins s σ H x y v u Q I rx ry h
  obtain ⟨d, ds, hd, he, sd, se, q⟩ := h
  rw [Bool.false_bne] at q
  obtain ⟨as, r1⟩ := Dp.reads I d x v hd rx
  rcases he with he | he
  · obtain ⟨bs, r2⟩ := Dp.reads I (.list ds) y u he ry
    exact SeqAt.in_list_reads r2 r1 (SeqAt.canLay_of_shaped se) (SeqAt.canLay_of_shaped sd) (room_in_shaped sd hu) ⟨.bl _, H, I, rfl, q⟩
  · obtain ⟨bs, r2⟩ := Dp.reads I (.tuple ds) y u he ry
    exact SeqAt.in_tuple_reads r2 r1 (SeqAt.canLay_of_shaped se) (SeqAt.canLay_of_shaped sd) (room_in_shaped sd hu) ⟨.bl _, H, I, rfl, q⟩
theorem op_notInX (hu : X.A.units + 65 < cLine) : OpR X (compareOp .NotIn) (rInX X.K true) := by
  intro pins s σ H x y v u Q I rx ry h
  obtain ⟨d, ds, hd, he, sd, se, q⟩ := h
  rw [Bool.true_bne] at q
  obtain ⟨as, r1⟩ := Dp.reads I d x v hd rx
  rcases he with he | he
  · obtain ⟨bs, r2⟩ := Dp.reads I (.list ds) y u he ry
    exact SeqAt.notIn_list_reads r2 r1 (SeqAt.canLay_of_shaped se) (SeqAt.canLay_of_shaped sd) (room_in_shaped sd hu) ⟨.bl _, H, I, rfl, q⟩
  · obtain ⟨bs, r2⟩ := Dp.reads I (.tuple ds) y u he ry
    exact SeqAt.notIn_tuple_reads r2 r1 (SeqAt.canLay_of_shaped se) (SeqAt.canLay_of_shaped sd) (room_in_shaped sd hu) ⟨.bl _, H, I, rfl, q⟩
end
@[irreducible] def gInX (neg : Bool) : PyData → PyData → Option PyData
  | x, .list ds => if SeqAt.shaped x && SeqAt.shaped (.list ds) then some (.bool (neg != ds.any fun z => PyData.eqv z x)) else none
  | x, .tuple ds => if SeqAt.shaped x && SeqAt.shaped (.list ds) then some (.bool (neg != ds.any fun z => PyData.eqv z x)) else none
  | _, _ => none
theorem shaped_lt {ds : List PyData} (h : SeqAt.shaped (.list ds) = true) : SeqAt.shaped (.tuple ds) = true := by
  unfold SeqAt.shaped at h ⊢
  simp only [PyData.canLay0, PyData.depth] at h ⊢
  exact h
theorem l_inX {K : PySem.W.Frag} {neg : Bool} : Op2 (rInX K neg) (gInX neg) := by
  intro O H x y dx dy z Q al bx by' e q
  unfold gInX at e
  split at e
  · split at e
    · rename_i hs
      rw [Bool.and_eq_true] at hs
      cases e
      exact ⟨dx, _, bx.dp hs.1, .inl (by'.dp hs.2), hs.1, hs.2, nw_now q (.bl _)⟩
    · cases e
  · split at e
    · rename_i hs
      rw [Bool.and_eq_true] at hs
      cases e
      exact ⟨dx, _, bx.dp hs.1, .inr (by'.dp (shaped_lt hs.2)), hs.1, hs.2, nw_now q (.bl _)⟩
    · cases e
  · cases e
theorem inX_list {neg : Bool} {x : PyData} {ds : List PyData} {k : Nat} (hx : Pln k x) (hd : ∀ d ∈ ds, Pln k d) (hk : k ≤ 63) : gInX neg x (.list ds) = some (.bool (neg != ds.any fun z => PyData.eqv z x)) := by
  unfold gInX
  show (if (SeqAt.shaped x && SeqAt.shaped (.list ds)) = true then some (PyData.bool (neg != ds.any fun z => PyData.eqv z x)) else none) = _
  rw [hx.sh (by omega), (pln_lst hd).sh (by omega)]
  rfl
theorem inX_tuple {neg : Bool} {x : PyData} {ds : List PyData} {k : Nat} (hx : Pln k x) (hd : ∀ d ∈ ds, Pln k d) (hk : k ≤ 63) : gInX neg x (.tuple ds) = some (.bool (neg != ds.any fun z => PyData.eqv z x)) := by
  unfold gInX
  show (if (SeqAt.shaped x && SeqAt.shaped (.list ds)) = true then some (PyData.bool (neg != ds.any fun z => PyData.eqv z x)) else none) = _
  rw [hx.sh (by omega), (pln_lst hd).sh (by omega)]
  rfl
theorem any_int {x : Int} : ∀ ns : List Int, ((ns.map dI).any fun z => PyData.eqv z (.int x)) = decide (x ∈ ns)
  | [] => rfl
  | y :: ns => by
    rw [List.map_cons, List.any_cons, any_int ns, PyData.eqv]
    rw [Bool.eq_iff_iff]
    simp
    constructor
    · rintro (h | h)
      · exact .inl h.symm
      · exact .inr h
    · rintro (h | h)
      · exact .inl h.symm
      · exact .inr h
theorem inX_ints {neg : Bool} {x : Int} {ns : List Int} : gInX neg (.int x) (lstI ns) = some (.bool (neg != decide (x ∈ ns))) := by
  rw [inX_list (k := 0) pln_int (fun d hd => by obtain ⟨y, _, rfl⟩ := List.mem_map.mp hd; exact pln_int) (by decide), any_int]
theorem inX_intsT {neg : Bool} {x : Int} {ns : List Int} : gInX neg (.int x) (tupI ns) = some (.bool (neg != decide (x ∈ ns))) := by
  rw [inX_tuple (k := 0) pln_int (fun d hd => by obtain ⟨y, _, rfl⟩ := List.mem_map.mp hd; exact pln_int) (by decide), any_int]
end Dl
namespace Dl
open PySem PySem.Spec PyProof.Rows L2 Gd Cl
theorem slT_midC {cs : List Cm} {a b : Nat} {x y : Int} (e : x = a) (e' : y = b) : gSlT (encs cs) (some x) (some y) = some (encs ((cs.drop a).take (b - a))) := by
  rw [slT_mid e e']
  show _ = some (PyData.tuple (List.map Cm.enc _))
  rw [List.map_take, List.map_drop]
theorem slT_toC {cs : List Cm} {b : Nat} {y : Int} (e' : y = b) : gSlT (encs cs) none (some y) = some (encs (cs.take b)) := by
  rw [slT_to e']
  show _ = some (PyData.tuple (List.map Cm.enc _))
  rw [List.map_take]
theorem slT_fromC {cs : List Cm} {a : Nat} {x : Int} (e : x = a) : gSlT (encs cs) (some x) none = some (encs (cs.drop a)) := by
  rw [slT_from e]
  show _ = some (PyData.tuple (List.map Cm.enc _))
  rw [List.map_drop]
theorem fit_bools {a b : Bool} : Fit 10 1 (.list [.bool a, .bool b]) := (fit_two (fit_bool (b := a)) (fit_bool (b := b))).mono (by decide) (by decide)
end Dl
namespace Dl
open PySem PySem.Spec PyProof.Rows L2 Gd
section
variable {X : Cx} {G : Gx}
/-- a new list among what is evaluated: from then on its address is avoided -/
theorem Rel.newList {O : Addr → Prop} {σ : L2.St} {H H1 : Hp} {E : En} {m : Nat} {a : Addr} {vs : List V} (r : Rel G O σ H E) (k1 : Kp G.F.S H H1) (i1 : G.F.I m H1) (e3 : H a = none) (e4 : H1 a = some (.lst vs)) :
    ¬ O a ∧ ¬ G.F.S a ∧ G.Hs a = none ∧ Later O H (fun x => O x ∨ x = a) H1 ∧ Rel G (fun x => O x ∨ x = a) σ H1 ⟨E.ρ, m⟩ := by
  have r1 := r.step k1 i1
  have nO : ¬ O a := fun y => r.al a y e3
  have nS : ¬ G.F.S a := fun y => nO (r.sO a y)
  have hs0 : G.Hs a = none := by
    cases e0 : G.Hs a with
    | none => rfl
    | some u =>
      by_cases qs : G.F.S a
      · exact (nS qs).elim
      · exact (Stay.ne (r.kp a u e0 qs) e3).elim
  have L1 : Later O H (fun x => O x ∨ x = a) H1 := ⟨fun x y => y.elim .inl fun y => .inr (y ▸ e3), fun x u y ny => (r.lt k1).h x u y ny⟩
  refine ⟨nO, nS, hs0, L1, ?_⟩
  refine ⟨r1.len, fun j d e => ?_, fun j es e => ?_, r1.dif, r1.con, i1, fun x y => .inl (r1.bo x y), fun x y => y.elim (r1.on x) fun y => y ▸ r.free e3, r1.aB.or e4 rfl, r1.kp, r.od.mv (fun _ _ z => Dv.later L1 z) fun _ _ b o _ _ e ob sb nl => ⟨(k1 _ _ e (fun y => G.hb b (G.sb b y) sb)).eq nl.2, .inl ob⟩⟩
  · obtain ⟨v, y1, y2⟩ := r.dat j d e
    exact ⟨v, y1, Dv.later L1 y2⟩
  · obtain ⟨b, ws, y1, y2, y3, y4, y5⟩ := r.own j es e
    exact ⟨b, ws, y1, k1 _ _ y2 (fun y => G.hb b (G.sb b y) y4), .inl y3, y4, y5.later L1⟩
/-- x, y, z = data, a new list, data -/
def zPar3M (i j l : Nat) (ta tb tc : TD) : TSd := fun D E => ta E fun x n => tb ⟨E.ρ, n⟩ fun d m => tc ⟨E.ρ, m⟩ fun w o => match d with | .list ds => D.nx ⟨((E.ρ.set j (.own ds)).set i (.dat x)).set l (.dat w), o⟩ | _ => False
theorem z_par3M {i j l : Nat} {x y z : Str} {a b c : Expr} {ta tb tc : TD} {px py pz pt pos : Pos} {kt k2 pt2} (hc : X.calm = true) (hN : X.N.Nodup) (hi : X.N[i]? = some x) (hj : X.N[j]? = some y) (hl : X.N[l]? = some z) (hij : i ≠ j) (hil : i ≠ l) (hjl : j ≠ l)
    (hx : X.env.scope.names.lookup x = some .local) (hy : X.env.scope.names.lookup y = some .local) (hz : X.env.scope.names.lookup z = some .local) (ha : PD X G a ta) (hb : PL X G b tb) (hcc : PD X G c tc)
    (hw : swappedStores [.Tuple [.Name x px, .Name y py, .Name z pz] kt pt] (.Tuple [a, b, c] k2 pt2) X.env = pure (some [x, y, z]))
    (hs : swapsWithSole [.Tuple [.Name x px, .Name y py, .Name z pz] kt pt] (.Tuple [a, b, c] k2 pt2) pos.line X.env = pure false := by rfl)
    (hs1 : starEach [a, b, c] X.env = (false, eval a X.env) :: starEach [b, c] X.env := by rfl) (hs2 : starEach [b, c] X.env = (false, eval b X.env) :: starEach [c] X.env := by rfl) (hs3 : starEach [c] X.env = (false, eval c X.env) :: starEach [] X.env := by rfl) :
    PZ X G (.Assign [.Tuple [.Name x px, .Name y py, .Name z pz] kt pt] (.Tuple [a, b, c] k2 pt2) pos) (zPar3M i j l ta tb tc) := PS.wk (ps_par3 hc hN hi hj hl hij hil hjl hx hy hz (pa_cons ha (pa_cons hb (pa_cons hcc pa_nil hs3) hs2) hs1) hw hs) fun D σ H ⟨O, E, Dd, r, k, z⟩ => by
  refine ⟨O, E, _, r, ?_, z⟩
  rintro x n v H0 k0 i0 rv q0
  have r0 := r.step k0 i0
  refine ⟨O, _, _, r0, ?_, q0⟩
  rintro d m v2 H1 k1 i1 ⟨a, vs, ds, rfl, rfl, e3, e4, e5⟩ q1
  obtain ⟨nO, nS, hs0, L1, r2⟩ := r0.newList k1 i1 e3 e4
  refine ⟨_, _, _, r2, ?_, q1⟩
  rintro w o v3 H2 k2 i2 rv3 q2
  have r3 := r2.step k2 i2
  have e4' := k2 _ _ e4 nS
  have e5' := e5.later (r2.lt k2)
  have L2' := L1.trans (r2.lt k2)
  have r4 := r3.setOwn (i := j) e4' hs0 (.inr rfl) e5' (fun j' dj nj ej y => by
    obtain ⟨b, ws, y1, y2, y3, _⟩ := r.own j' dj ej
    rw [y] at y1
    cases y1
    exact nO y3)
  have r5 := (r4.set (i := i) (Dv.later L2' rv)).set (i := l) rv3
  have es : (((σ.set j (some (V.ref a))).set i (some v)).set l (some v3)) = (((σ.set i (some v)).set j (some (V.ref a))).set l (some v3)) := by
    rw [List.set_comm _ _ hij]
  rw [es] at r5
  exact ⟨_, _, _, rfl, k.nx _ _ H2 _ ((r.lt k0).trans L2') r5 q2⟩
end
end Dl
namespace Dl
open PySem PySem.Spec PyProof.Rows L2 Gd Cl
theorem ix_encs {cs : List Cm} {i : Nat} {x : Int} (e : x = (i : Nat)) (h : i < cs.length) : gIx (encs cs) (.int x) = some (cs.getD i ⟨0, 0, 0⟩).enc := by
  subst e
  show atI (cs.map Cm.enc) (i : Int) = _
  unfold atI
  rw [ixN_nat rfl (by rw [List.length_map]; exact h)]
  show (cs.map Cm.enc)[i]? = _
  rw [List.getElem?_map, List.getElem?_eq_getElem h, List.getD_eq_getElem?_getD, List.getElem?_eq_getElem h]
  rfl
end Dl
namespace Dl
open PySem PySem.Spec PyProof.Rows L2 Gd
section
variable {X : Cx} {G : Gx}
/-- xs.extend(e), e a list -/
def zExt (i : Nat) (t : TD) : TSd := fun D E => match E.ρ[i]? with | some (.own ds) => t E fun d n => (match d with | .list es => ds.length + es.length ≤ 100000 ∧ D.nx ⟨E.ρ.set i (.own (ds ++ es)), n⟩ | _ => False) | _ => False
theorem z_ext {i : Nat} {x : Str} {e : Expr} {t : TD} {pos p apos cpos : Pos} (h : PE X (.Name x p) (tVar i)) (he : PD X G e t) (hbase : attributeBase (.Name x p) "extend" X.env (eval (.Name x p) X.env) = eval (.Name x p) X.env := by rfl)
    (hfew : ((backTo cpos (starEach [e] X.env)).all (fun x => !x.1) && (backToKw cpos (keywordEach [] X.env)).all (fun x => x.1.isSome) && decide (([e] : List Expr).length + ([] : List Keyword).length + (if ([] : List Keyword).isEmpty then 0 else 1) < 30)) = true := by rfl)
    (hline : (apos.endLine == cpos.line) = true := by rfl) (hst : starEach [e] X.env = (false, eval e X.env) :: starEach [] X.env := by rfl) (hs : swapsWith (.Call (.Attribute (.Name x p) "extend" apos) [e] [] cpos) none pos.line X.env = pure false := by rfl) :
    PZ X G (.Expr (.Call (.Attribute (.Name x p) "extend" apos) [e] [] cpos) pos) (zExt i t) :=
  PS.wk (ps_expr (pe_bm PySem.F.plainAttrs_list PySem.F.slot_list_extend PySem.F.type_list_extend mt_extend h (pa_cons he pa_nil hst) hbase hfew hline hst) hs) fun D σ H ⟨O, E, Dd, r, k, z⟩ => by
    unfold zExt at z
    split at z
    · rename_i ds eo
      obtain ⟨a, vs, y1, y2, y3, y4, y5⟩ := r.own i ds eo
      refine ⟨_, y1, .inl ⟨rfl, _, sq_of y2⟩, O, E, _, r, ?_, z⟩
      rintro d n v H1 k1 i1 rv q1
      have r1 := r.step k1 i1
      obtain ⟨a', vs', w1, w2, w3, w4, w5⟩ := r1.own i ds eo
      rw [y1] at w1
      cases w1
      split at q1
      · obtain ⟨q0, q1⟩ := q1
        obtain ⟨b, us, rfl, h1, h2, h3⟩ := Dv.unL rv
        refine ⟨a, b, vs', us, rfl, rfl, w2, h1, sz_of (by rw [w5.length, h3.length]; exact q0), ?_⟩
        obtain ⟨r2, L2⟩ := r1.mut eo y1 y3 y4 (w5.app h3)
        exact k.nx O _ _ _ ((r.lt k1).trans L2) r2 q1
      · exact q1.elim
    · exact z.elim
end
end Dl
namespace Dl
open PySem PySem.Spec PyProof.Rows L2 Gd
theorem lc_revI {tg : Tg} {tt : TDt} {te : TD} {ρ0 : List Sl} {Q : PyData → Nat → Prop} (xs : List Int) (p : Int → Bool) (f : Int → PyData) {n : Nat}
    (h : ∀ x ∈ xs, ∃ ρ, tg.put (.int x) ρ0 = some ρ ∧ (∀ (n : Nat) (R : Bool → Nat → Prop), R (p x) n → tt ⟨ρ, n⟩ R) ∧ (p x = true → ∀ (n : Nat) (R : PyData → Nat → Prop), R (f x) n → te ⟨ρ, n⟩ R)) (hl : xs.length ≤ 100000) (q : Q (.list ((xs.reverse.filter p).map f)) n) : dLcL tg tt te ρ0 Q (xs.map dI).reverse [] n := by
  rw [← List.map_reverse]
  exact lc_M xs.reverse dI p f (fun x hx => h x (List.mem_reverse.mp hx)) (by rw [List.length_reverse]; exact hl) q
end Dl
namespace Dl
open PySem PySem.Spec PyProof.Rows L2 Gd
section
variable {X : Cx} {G : Gx}
/-- x, y, z = data, data, a new list -/
def zPar3R (i j l : Nat) (ta tb tc : TD) : TSd := fun D E => ta E fun x n => tb ⟨E.ρ, n⟩ fun w m => tc ⟨E.ρ, m⟩ fun d o => match d with | .list ds => D.nx ⟨((E.ρ.set l (.own ds)).set i (.dat x)).set j (.dat w), o⟩ | _ => False
theorem z_par3R {i j l : Nat} {x y z : Str} {a b c : Expr} {ta tb tc : TD} {px py pz pt pos : Pos} {kt k2 pt2} (hc : X.calm = true) (hN : X.N.Nodup) (hi : X.N[i]? = some x) (hj : X.N[j]? = some y) (hl : X.N[l]? = some z) (hij : i ≠ j) (hil : i ≠ l) (hjl : j ≠ l)
    (hx : X.env.scope.names.lookup x = some .local) (hy : X.env.scope.names.lookup y = some .local) (hz : X.env.scope.names.lookup z = some .local) (ha : PD X G a ta) (hb : PD X G b tb) (hcc : PL X G c tc)
    (hw : swappedStores [.Tuple [.Name x px, .Name y py, .Name z pz] kt pt] (.Tuple [a, b, c] k2 pt2) X.env = pure (some [x, y, z]))
    (hs : swapsWithSole [.Tuple [.Name x px, .Name y py, .Name z pz] kt pt] (.Tuple [a, b, c] k2 pt2) pos.line X.env = pure false := by rfl)
    (hs1 : starEach [a, b, c] X.env = (false, eval a X.env) :: starEach [b, c] X.env := by rfl) (hs2 : starEach [b, c] X.env = (false, eval b X.env) :: starEach [c] X.env := by rfl) (hs3 : starEach [c] X.env = (false, eval c X.env) :: starEach [] X.env := by rfl) :
    PZ X G (.Assign [.Tuple [.Name x px, .Name y py, .Name z pz] kt pt] (.Tuple [a, b, c] k2 pt2) pos) (zPar3R i j l ta tb tc) := PS.wk (ps_par3 hc hN hi hj hl hij hil hjl hx hy hz (pa_cons ha (pa_cons hb (pa_cons hcc pa_nil hs3) hs2) hs1) hw hs) fun D σ H ⟨O, E, Dd, r, k, z⟩ => by
  refine ⟨O, E, _, r, ?_, z⟩
  rintro x n v H0 k0 i0 rv q0
  have r0 := r.step k0 i0
  refine ⟨O, _, _, r0, ?_, q0⟩
  rintro w m v3 H1 k1 i1 rv3 q1
  have r1 := r0.step k1 i1
  refine ⟨O, _, _, r1, ?_, q1⟩
  rintro d o v2 H2 k2 i2 ⟨a, vs, ds, rfl, rfl, e3, e4, e5⟩ q2
  obtain ⟨nO, nS, hs0, L1, r2⟩ := r1.newList k2 i2 e3 e4
  have r4 := r2.setOwn (i := l) e4 hs0 (.inr rfl) e5 (fun j' dj nj ej y => by
    obtain ⟨b, ws, y1, y2, y3, _⟩ := r.own j' dj ej
    rw [y] at y1
    cases y1
    exact nO y3)
  have r5 := (r4.set (i := i) (Dv.later L1 (Dv.later (r0.lt k1) rv))).set (i := j) (Dv.later L1 rv3)
  have es : (((σ.set l (some (V.ref a))).set i (some v)).set j (some v3)) = (((σ.set i (some v)).set j (some v3)).set l (some (V.ref a))) := by
    rw [List.set_comm _ _ (Ne.symm hil), List.set_comm _ _ (Ne.symm hjl)]
  rw [es] at r5
  exact ⟨_, _, _, rfl, k.nx _ _ H2 _ (((r.lt k0).trans (r0.lt k1)).trans L1) r5 q2⟩
end
end Dl
/-! more rules over data: t[::-1], xs.pop(), xs.pop(0), str(int) -/
namespace Dl
open PySem PySem.Spec PyProof.Rows L2 Gd
section
variable {X : Cx} {G : Gx}
def gRevT : PyData → Option PyData
  | .tuple ds => some (.tuple ds.reverse)
  | _ => none
theorem DvL.rev {O : Addr → Prop} {H : Hp} : ∀ {a : List V} {c : List PyData}, DvL O H a c → DvL O H a.reverse c.reverse
  | _, _, .nil => .nil
  | _, _, .cons h t => by
    rw [List.reverse_cons, List.reverse_cons]
    exact DvL.app (DvL.rev t) (.cons h .nil)
theorem pd_revT {e : Expr} {t : TD} {k : Nat} {p1 p2 p3 pos : Pos} (he : PB X G e t) : PD X G (.Subscript e (.Slice none none (some (.UnaryOp .USub (.Constant (.int 1) k p1) p2)) p3) pos) (dUn gRevT t) :=
  PE.wk (pe_back he) fun σ H Q ⟨O, E, Qd, r, im, z⟩ => by
    refine ⟨O, E, _, r, ?_, z⟩
    rintro d n v H1 k1 i1 rv q1
    have r1 := r.step k1 i1
    obtain ⟨w, e, q⟩ := opt_el q1
    cases d with
    | tuple ds =>
      cases e
      obtain ⟨a, vs, rfl, h1, h2, _⟩ := Bw.tup rv.bw
      refine ⟨a, vs, rfl, st_of h1, fun p hp => ?_⟩
      have s1 : Same H1 (upd H1 p (.tup vs.reverse)) := same_upd' hp
      obtain ⟨k2, i2⟩ := r1.fin s1
      exact im _ n _ _ (k1.trans k2) i2 (Dv.mkT upd_same (fun y => r1.al p y hp) (h2.rev.later (later_new hp))) q
    | _ => cases e
/-- y = xs.pop(), xs a list of one's own -/
def zPop (i j : Nat) : TSd := fun D E => match E.ρ[j]? with | some (.own ds) => (match ds.getLast? with | some d => D.nx ⟨(E.ρ.set j (.own ds.dropLast)).set i (.dat d), E.n⟩ | none => False) | _ => False
theorem DvL.dropLastL {O : Addr → Prop} {H : Hp} {a : List V} {c : List PyData} (h : DvL O H a c) : DvL O H a.dropLast c.dropLast := by
  rw [List.dropLast_eq_take, List.dropLast_eq_take, h.length]
  exact h.takeL _
theorem z_pop {i j : Nat} {x y : Str} {pos pos' p apos cpos : Pos} (hN : X.N.Nodup) (hi : X.N[i]? = some x) (hx : Loc X.env.scope x) (h : PE X (.Name y p) (tVar j)) (hij : i ≠ j)
    (hs : swapsWith (.Call (.Attribute (.Name y p) "pop" apos) [] [] cpos) (some (.Name x pos')) pos.line X.env = pure false := by rfl) (hf : X.fn x = true ∨ X.env.scope.names.lookup x = some .local := by first | exact .inl rfl | exact .inr rfl | assumption)
    (hbase : attributeBase (.Name y p) "pop" X.env (eval (.Name y p) X.env) = eval (.Name y p) X.env := by rfl) (hline : (apos.endLine == cpos.line) = true := by rfl) :
    PZ X G (.Assign [.Name x pos'] (.Call (.Attribute (.Name y p) "pop" apos) [] [] cpos) pos) (zPop i j) :=
  PS.wk (ps_set hN hi hx (pe_bm0 PySem.F.plainAttrs_list PySem.F.slot_list_pop PySem.F.type_list_pop mt_pop h hbase hline) hs hf) fun D σ H ⟨O, E, Dd, r, k, z⟩ => by
    unfold zPop at z
    split at z
    · rename_i ds eo
      split at z
      · rename_i d ed
        obtain ⟨a, vs, y1, y2, y3, y4, y5⟩ := r.own j ds eo
        have ed' : ds[ds.length - 1]? = some d := by rw [← List.getLast?_eq_getElem?]; exact ed
        obtain ⟨v, hv, dv⟩ := y5.get ed'
        rw [← y5.length] at hv
        refine ⟨_, y1, .inl ⟨rfl, _, sq_of y2⟩, a, vs, v, rfl, rfl, y2, hv, ?_⟩
        obtain ⟨r2, L2⟩ := r.mut eo y1 y3 y4 y5.dropLastL
        exact k.nx O _ _ _ L2 (r2.set (Dv.later L2 dv)) z
      · exact z.elim
    · exact z.elim
/-- y = xs.pop(0) -/
def zPop0 (i j : Nat) : TSd := fun D E => match E.ρ[j]? with | some (.own (d :: ds)) => D.nx ⟨(E.ρ.set j (.own ds)).set i (.dat d), E.n⟩ | _ => False
theorem z_pop0 {i j k0 : Nat} {x y : Str} {pos pos' p apos cpos p0 : Pos} (hN : X.N.Nodup) (hi : X.N[i]? = some x) (hx : Loc X.env.scope x) (h : PE X (.Name y p) (tVar j)) (hij : i ≠ j)
    (hs : swapsWith (.Call (.Attribute (.Name y p) "pop" apos) [.Constant (.int 0) k0 p0] [] cpos) (some (.Name x pos')) pos.line X.env = pure false := by rfl) (hf : X.fn x = true ∨ X.env.scope.names.lookup x = some .local := by first | exact .inl rfl | exact .inr rfl | assumption)
    (hbase : attributeBase (.Name y p) "pop" X.env (eval (.Name y p) X.env) = eval (.Name y p) X.env := by rfl)
    (hfew : ((backTo cpos (starEach [.Constant (.int 0) k0 p0] X.env)).all (fun x => !x.1) && (backToKw cpos (keywordEach [] X.env)).all (fun x => x.1.isSome) && decide (([.Constant (.int 0) k0 p0] : List Expr).length + ([] : List Keyword).length + (if ([] : List Keyword).isEmpty then 0 else 1) < 30)) = true := by rfl)
    (hline : (apos.endLine == cpos.line) = true := by rfl) (hst : starEach [.Constant (.int 0) k0 p0] X.env = (false, eval (.Constant (.int 0) k0 p0) X.env) :: starEach [] X.env := by rfl) :
    PZ X G (.Assign [.Name x pos'] (.Call (.Attribute (.Name y p) "pop" apos) [.Constant (.int 0) k0 p0] [] cpos) pos) (zPop0 i j) :=
  PS.wk (ps_set hN hi hx (pe_bm PySem.F.plainAttrs_list PySem.F.slot_list_pop PySem.F.type_list_pop mt_popAt h (pa_cons pe_int pa_nil hst) hbase hfew hline hst) hs hf) fun D σ H ⟨O, E, Dd, r, k, z⟩ => by
    unfold zPop0 at z
    split at z
    · rename_i d ds eo
      obtain ⟨a, vs, y1, y2, y3, y4, y5⟩ := r.own j (d :: ds) eo
      cases y5 with
      | cons dv y5 =>
      rename_i v vs
      refine ⟨_, y1, .inl ⟨rfl, _, sq_of y2⟩, a, _, 0, 0, v, rfl, rfl, y2, by decide, by decide, (ixN_seq (ixN_nat (k := 0) rfl (Nat.succ_pos _))).1, rfl, ?_⟩
      obtain ⟨r2, L2⟩ := r.mut eo y1 y3 y4 y5
      exact k.nx O _ _ _ L2 (r2.set (Dv.later L2 dv)) z
    · exact z.elim
def gStrI : PyData → Option PyData
  | .int i => if i.natAbs < 2 ^ 200 then some (.str (toString i)) else none
  | _ => none
theorem gStrI_el {d z : PyData} (h : gStrI d = some z) : ∃ i : Int, d = .int i ∧ i.natAbs < 2 ^ 200 ∧ z = .str (toString i) := by
  cases d with
  | int i =>
    by_cases hi : i.natAbs < 2 ^ 200
    · have : gStrI (.int i) = some (.str (toString i)) := if_pos hi
      rw [this] at h
      exact ⟨i, rfl, hi, (Option.some.inj h).symm⟩
    · have : gStrI (.int i) = none := if_neg hi
      rw [this] at h
      cases h
  | _ => cases h
theorem pd_strI {a : Expr} {ta : TD} {p pos : Pos} (ha : PB X G a ta) (hm : X.mg "str" = none) (hg : Gl X "str" := by rfl) (hs : starEach [a] X.env = (false, eval a X.env) :: starEach [] X.env := by rfl) : PD X G (.Call (.Name "str" p) [a] [] pos) (dUn gStrI ta) :=
  PE.wk (pe_callTy call_str_int hg hm (by decide +kernel) (pa_cons ha pa_nil hs) (he := hs)) (cl1 fun O H x dx z Q al bx e q => by
    obtain ⟨i, rfl, hi, rfl⟩ := gStrI_el e
    obtain rfl := bx.int
    refine ⟨i, rfl, ?_, nw_now q (.str _)⟩
    by_cases z : i.natAbs = 0
    · rw [z]
      decide
    · exact Nat.lt_of_lt_of_le ((Nat.log2_lt z).mpr hi) (by decide))
/-- x, y = two new lists -/
def zParLL (i j : Nat) (ta tb : TD) : TSd := fun D E => ta E fun d n => tb ⟨E.ρ, n⟩ fun d' m => match d, d' with | .list ds, .list es => D.nx ⟨(E.ρ.set i (.own ds)).set j (.own es), m⟩ | _, _ => False
theorem z_parLL {i j : Nat} {x y : Str} {a b : Expr} {ta tb : TD} {px py pt pos : Pos} {kt k2 pt2} (hc : X.calm = true) (hN : X.N.Nodup) (hi : X.N[i]? = some x) (hj : X.N[j]? = some y) (hij : i ≠ j)
    (hx : X.env.scope.names.lookup x = some .local) (hy : X.env.scope.names.lookup y = some .local) (ha : PL X G a ta) (hb : PL X G b tb)
    (hw : swappedStores [.Tuple [.Name x px, .Name y py] kt pt] (.Tuple [a, b] k2 pt2) X.env = pure (some [x, y]))
    (hs : swapsWithSole [.Tuple [.Name x px, .Name y py] kt pt] (.Tuple [a, b] k2 pt2) pos.line X.env = pure false := by rfl) (hs1 : starEach [a, b] X.env = (false, eval a X.env) :: starEach [b] X.env := by rfl) (hs2 : starEach [b] X.env = (false, eval b X.env) :: starEach [] X.env := by rfl) :
    PZ X G (.Assign [.Tuple [.Name x px, .Name y py] kt pt] (.Tuple [a, b] k2 pt2) pos) (zParLL i j ta tb) := PS.wk (ps_par hc hN hi hj hij hx hy (pa_cons ha (pa_cons hb pa_nil hs2) hs1) hw hs) fun D σ H ⟨O, E, Dd, r, k, z⟩ => by
  refine ⟨O, E, _, r, ?_, z⟩
  rintro d n v H1 k1 i1 ⟨a, vs, ds, rfl, rfl, e3, e4, e5⟩ q1
  obtain ⟨nO, nS, hs0, L1, r2⟩ := r.newList k1 i1 e3 e4
  refine ⟨_, _, _, r2, ?_, q1⟩
  rintro d' m v2 H2 k2 i2 ⟨b, us, es, rfl, rfl, f3, f4, f5⟩ q2
  obtain ⟨nO2, nS2, hs02, L2, r3⟩ := r2.newList k2 i2 f3 f4
  have e4' := k2 _ _ e4 nS
  have ab : a ≠ b := fun y => by rw [← y, e4] at f3; cases f3
  refine ⟨_, _, rfl, k.nx _ _ H2 _ (L1.trans L2) ((r3.setOwn e4' hs0 (.inl (.inr rfl)) (e5.later L2) fun j dj nj ej y => ?_).setOwn f4 hs02 (.inr rfl) f5 fun j' dj nj ej y => ?_) q2⟩
  · obtain ⟨b', ws, y1, y2, y3, _⟩ := r.own j dj ej
    rw [y] at y1
    cases y1
    exact nO y3
  · by_cases q : j' = i
    · subst q
      rw [List.getElem?_set] at y
      split at y
      · split at y
        · cases y
          exact ab rfl
        · cases y
      · rename_i h
        exact h rfl
    · rw [List.getElem?_set_ne (fun y => q y.symm)] at y ej
      obtain ⟨b', ws, y1, y2, y3, _⟩ := r.own j' dj ej
      rw [y] at y1
      cases y1
      exact nO2 (.inl y3)
end
end Dl
namespace Dl
open PySem PySem.Spec PyProof.Rows L2 Gd
section
variable {X : Cx} {G : Gx}
/-- a list beside [], a tuple beside (), of any items -/
def rNil (K : PySem.W.Frag) (neg : Bool) : R2 := fun x y H Q => ∃ a b xs, x = .ref a ∧ y = .ref b ∧ ((H a = some (.lst xs) ∧ H b = some (.lst [])) ∨ (SqT K H a xs ∧ SqT K H b [])) ∧ Q (.bl (neg != xs.isEmpty)) H
theorem empty_vals {xs : List V} {us : List Value} (h : Vals xs us) : us.isEmpty = xs.isEmpty := by cases h <;> rfl
theorem op_eqN (hu : X.A.units + 64 < cLine) : OpR X (compareOp .Eq) (rNil X.K false) := by
  intro pins s σ H x y v u Q I rx ry want
  obtain ⟨a, b, xs, rfl, rfl, hc, q⟩ := want
  cases rx
  cases ry
  rcases hc with ⟨ha, hb⟩ | ⟨ha, hb⟩
  · obtain ⟨_, its, n, r, hl, e⟩ := I.lstM ha
    obtain ⟨_, its2, n2, r2, hl2, e2⟩ := I.lstM hb
    cases r2
    have i1 : s.heap.IsList a its.toArray := ⟨_, e, rfl, _, rfl⟩
    have i2 : s.heap.IsList b ([] : List Value).toArray := ⟨_, e2, rfl, _, rfl⟩
    cases r with
    | nil =>
      have rc := PySem.SeqAt.RcAt.lists (A := X.A) (e := fun _ => true) i1 i2 rfl (by omega) (fun j _ h2 => absurd h2 (by simp))
      exact rc X.prog X.w X.xe _ ⟨.bl true, H, I, rfl, q⟩
    | cons _ _ =>
      have rc := PySem.SeqAt.RcAt.lists_lengths (A := X.A) i1 i2 (by simp) (by omega)
      exact rc X.prog X.w X.xe _ ⟨.bl false, H, I, rfl, q⟩
  · obtain ⟨its, rv, t1, _⟩ := I.tuple ha
    obtain ⟨its2, rv2, t2, _⟩ := I.tuple hb
    cases rv2
    have i1 : s.heap.IsTuple a its.toArray := t1
    have i2 : s.heap.IsTuple b ([] : List Value).toArray := t2
    have rc := PySem.SeqAt.RcAt.tuples (A := X.A) (e := fun _ => true) i1 i2 (by omega) (fun j _ h2 => absurd h2 (by simp))
    refine rc X.prog X.w X.xe _ ⟨.bl (false != xs.isEmpty), H, I, ?_, q⟩
    cases rv with
    | nil => rfl
    | cons _ _ => rfl
theorem op_neN (hu : X.A.units + 64 < cLine) : OpR X (compareOp .NotEq) (rNil X.K true) := by
  intro pins s σ H x y v u Q I rx ry want
  obtain ⟨a, b, xs, rfl, rfl, hc, q⟩ := want
  cases rx
  cases ry
  rcases hc with ⟨ha, hb⟩ | ⟨ha, hb⟩
  · obtain ⟨_, its, n, r, hl, e⟩ := I.lstM ha
    obtain ⟨_, its2, n2, r2, hl2, e2⟩ := I.lstM hb
    cases r2
    have i1 : s.heap.IsList a its.toArray := ⟨_, e, rfl, _, rfl⟩
    have i2 : s.heap.IsList b ([] : List Value).toArray := ⟨_, e2, rfl, _, rfl⟩
    cases r with
    | nil =>
      have rc := PySem.SeqAt.RcNeAt.lists (A := X.A) (e := fun _ => true) i1 i2 rfl (by omega) (fun j _ h2 => absurd h2 (by simp))
      exact rc X.prog X.w X.xe _ ⟨.bl false, H, I, rfl, q⟩
    | cons _ _ =>
      have rc := PySem.SeqAt.RcNeAt.lists_lengths (A := X.A) i1 i2 (by simp) (by omega)
      exact rc X.prog X.w X.xe _ ⟨.bl true, H, I, rfl, q⟩
  · obtain ⟨its, rv, t1, _⟩ := I.tuple ha
    obtain ⟨its2, rv2, t2, _⟩ := I.tuple hb
    cases rv2
    have i1 : s.heap.IsTuple a its.toArray := t1
    have i2 : s.heap.IsTuple b ([] : List Value).toArray := t2
    have rc := PySem.SeqAt.RcNeAt.tuples (A := X.A) (e := fun _ => true) i1 i2 (by omega) (fun j _ h2 => absurd h2 (by simp))
    refine rc X.prog X.w X.xe _ ⟨.bl (true != xs.isEmpty), H, I, ?_, q⟩
    cases rv with
    | nil => rfl
    | cons _ _ => rfl
def gNil (neg : Bool) : PyData → PyData → Option PyData
  | .list ds, .list [] => some (.bool (neg != ds.isEmpty))
  | .tuple ds, .tuple [] => some (.bool (neg != ds.isEmpty))
  | _, _ => none
theorem empty_dv {O : Addr → Prop} {H : Hp} {vs : List V} {ds : List PyData} (h : DvL O H vs ds) : vs.isEmpty = ds.isEmpty := by cases h <;> rfl
theorem l_nil {K : PySem.W.Frag} {neg : Bool} : Op2 (rNil K neg) (gNil neg) := by
  intro O H x y dx dy z Q al bx by' e q
  unfold gNil at e
  split at e
  · cases e
    obtain ⟨a, vs, rfl, h1, d1⟩ := bx.lst
    obtain ⟨b, us, rfl, h2, d2⟩ := by'.lst
    cases d2
    exact ⟨a, b, vs, rfl, rfl, .inl ⟨h1, h2⟩, by rw [empty_dv d1]; exact nw_now q (.bl _)⟩
  · cases e
    obtain ⟨a, vs, rfl, h1, d1, _⟩ := bx.tup
    obtain ⟨b, us, rfl, h2, d2, _⟩ := by'.tup
    cases d2
    exact ⟨a, b, vs, rfl, rfl, .inr ⟨st_of h1, st_of h2⟩, by rw [empty_dv d1]; exact nw_now q (.bl _)⟩
  · cases e
end
end Dl
namespace Dl
open PySem PySem.Spec PyProof.Rows L2 Gd
theorem list_extend_tup (l : Addr) (items : Array Value) (n : Nat) (b : Addr) (items2 : Array Value) (n2 : Nat) (dd : Option Addr) (sl : Array (Option Value)) (hs0 : ¬(!items.isEmpty && Builtin.List.listTooLong (items.size + items2.size)) = true) (hs1 : items.size ≤ sizeLine) (hs2 : items.size + items2.size ≤ sizeLine + 1) :
    Meets (Builtin.«list.extend» ⟨[.ref l, .ref b], []⟩) (fun _ R s => s.heap.get? l = some { cls := .type "list", dict := none, data := .seq items n, slots := #[] } ∧ s.heap.get? b = some { cls := .type "tuple", dict := dd, data := .seq items2 n2, slots := sl } ∧ R (.ok (.ret Value.none)) { s with heap := s.heap.update l (Obj.mapSeq fun x => x ++ items2), toks := s.toks }) :=
  .of_wp fun prog w A R s h => by
    obtain ⟨hp, g, d, tk, os⟩ := s
    obtain ⟨hl, hb, h⟩ := h
    have f1 := AutoSeq1.idx_int
    have f2 := AutoSeq1.sub_tuple_tuple
    have f3 := AutoSeq1.sub_list_list
    have f4 := AutoSeq1.sub_tuple_list
    have f5 := AutoSeq1.sub_list_tuple
    have hz' : (items ++ items2).size ≤ sizeLine + 1 := by rw [Array.size_append]; exact hs2
    wp_walk using (wpAny_updateSeq hl rfl (hz := hs1) (_hz' := hz')), AutoSeq1.wpAny_loadPart' hl, AutoSeq1.wpAny_loadPart' hb
    exact ⟨_, rfl, h⟩
section
variable {X : Cx} {G : Gx}
def rExtT (K : PySem.W.Frag) : V → List V → Hp → VK → Prop := fun x vs H Q => ∃ l b xs zs, x = .ref l ∧ vs = [.ref b] ∧ H l = some (.lst xs) ∧ SqT K H b zs ∧ xs.length + zs.length ≤ sizeLine ∧ Q .non (upd H l (.lst (xs ++ zs)))
theorem mt_extT : MtM X "list.extend" (rExtT X.K) := by
  intro pins s σ H x vs v us Q I rx rv h
  obtain ⟨l, b, xs, zs, rfl, rfl, hH, hB, hz, q⟩ := h
  cases rx
  obtain ⟨u, rfl, ru⟩ := rv.one
  cases ru
  obtain ⟨z, its, n, r, hl, e⟩ := I.lstM hH
  obtain ⟨its2, r2, t2, hz2⟩ := I.tuple hB
  obtain ⟨⟨cls, dd, data, sl⟩, ho, hc, n2, hd⟩ := t2
  cases hc
  cases hd
  have hl2 := r2.length
  have hsz : its.toArray.size + its2.toArray.size ≤ sizeLine := by rw [List.size_toArray, List.size_toArray]; omega
  have hlong : ¬ (!its.toArray.isEmpty && Builtin.List.listTooLong (its.toArray.size + its2.toArray.size)) = true := by
    rw [notLongL hsz, Bool.and_false]
    exact Bool.false_ne_true
  refine call_meets PySem.F.slot_list_extend ⟨_, e, rfl⟩ PySem.F.entry_list_extend (PySem.F.args_list_extend_2 _ _)
    (list_extend_tup l its.toArray n b its2.toArray n2 dd sl hlong (by rw [List.size_toArray]; omega) (by omega)) ⟨e, ho, ?_⟩
  refine ⟨.non, _, I.lset (its' := its ++ its2) hH e (by simp) (r.append r2) ?_, rfl, q⟩
  rw [List.length_append]
  omega
/-- xs.extend(e), e a tuple -/
def zExtT (i : Nat) (t : TD) : TSd := fun D E => match E.ρ[i]? with | some (.own ds) => t E fun d n => (match d with | .tuple es => ds.length + es.length ≤ 100000 ∧ D.nx ⟨E.ρ.set i (.own (ds ++ es)), n⟩ | _ => False) | _ => False
theorem z_extT {i : Nat} {x : Str} {e : Expr} {t : TD} {pos p apos cpos : Pos} (h : PE X (.Name x p) (tVar i)) (he : PD X G e t) (hbase : attributeBase (.Name x p) "extend" X.env (eval (.Name x p) X.env) = eval (.Name x p) X.env := by rfl)
    (hfew : ((backTo cpos (starEach [e] X.env)).all (fun x => !x.1) && (backToKw cpos (keywordEach [] X.env)).all (fun x => x.1.isSome) && decide (([e] : List Expr).length + ([] : List Keyword).length + (if ([] : List Keyword).isEmpty then 0 else 1) < 30)) = true := by rfl)
    (hline : (apos.endLine == cpos.line) = true := by rfl) (hst : starEach [e] X.env = (false, eval e X.env) :: starEach [] X.env := by rfl) (hs : swapsWith (.Call (.Attribute (.Name x p) "extend" apos) [e] [] cpos) none pos.line X.env = pure false := by rfl) :
    PZ X G (.Expr (.Call (.Attribute (.Name x p) "extend" apos) [e] [] cpos) pos) (zExtT i t) :=
  PS.wk (ps_expr (pe_bm PySem.F.plainAttrs_list PySem.F.slot_list_extend PySem.F.type_list_extend mt_extT h (pa_cons he pa_nil hst) hbase hfew hline hst) hs) fun D σ H ⟨O, E, Dd, r, k, z⟩ => by
    unfold zExtT at z
    split at z
    · rename_i ds eo
      obtain ⟨a, vs, y1, y2, y3, y4, y5⟩ := r.own i ds eo
      refine ⟨_, y1, .inl ⟨rfl, _, sq_of y2⟩, O, E, _, r, ?_, z⟩
      rintro d n v H1 k1 i1 rv q1
      have r1 := r.step k1 i1
      obtain ⟨a', vs', w1, w2, w3, w4, w5⟩ := r1.own i ds eo
      rw [y1] at w1
      cases w1
      split at q1
      · obtain ⟨q0, q1⟩ := q1
        obtain ⟨b, us, rfl, h1, h2, h3⟩ := Dv.unT rv
        refine ⟨a, b, vs', us, rfl, rfl, w2, st_of h1, sz_of (by rw [w5.length, h3.length]; exact q0), ?_⟩
        obtain ⟨r2, L2⟩ := r1.mut eo y1 y3 y4 (w5.app h3)
        exact k.nx O _ _ _ ((r.lt k1).trans L2) r2 q1
      · exact q1.elim
    · exact z.elim
end
end Dl
/-! Counting shapes: tables. -/
namespace Sh
open PySem PySem.Spec PyProof.Rows L2 Gd Dl
def scan (p : Int) : List Int → List Int
  | [] => []
  | x :: r => (p + x) :: scan (p + x) r
def nextRow : List Int → List Int
  | _ :: b :: r => b :: scan b r
  | _ => []
def rowAt (n : Nat) : Nat → List Int
  | 0 => List.replicate (n + 1) 1
  | l + 1 => nextRow (rowAt n l)
def catT : List Int := [1, 1, 2, 5, 14, 42, 132, 429, 1430, 4862, 16796, 58786, 208012, 742900, 2674440, 9694845, 35357670, 129644790, 477638700, 1767263190, 6564120420, 24466267020, 91482563640, 343059613650, 1289904147324, 4861946401452, 18367353072152, 69533550916004, 263747951750360, 1002242216651368, 3814986502092304, 14544636039226909, 55534064877048198, 212336130412243110, 812944042149730764, 3116285494907301262, 11959798385860453492, 45950804324621742364, 176733862787006701400, 680425371729975800390, 2622127042276492108820, 10113918591637898134020, 39044429911904443959240, 150853479205085351660700, 583300119592996693088040, 2257117854077248073253720, 8740328711533173390046320, 33868773757191046886429490, 131327898242169365477991900, 509552245179617138054608572, 1978261657756160653623774456, 7684785670514316385230816156, 29869166945772625950142417512, 116157871455782434250553845880, 451959718027953471447609509424, 1759414616608818870992479875972, 6852456927844873497549658464312, 26700952856774851904245220912664, 104088460289122304033498318812080, 405944995127576985730643443367112, 1583850964596120042686772779038896]
def cat (n : Nat) : Int := en catT n
theorem scan_length : ∀ (p : Int) (l : List Int), (scan p l).length = l.length
  | _, [] => rfl
  | p, x :: r => by simp [scan, scan_length]
theorem nextRow_length {l : List Int} (h : 2 ≤ l.length) : (nextRow l).length = l.length - 1 := by
  match l, h with
  | a :: b :: r, _ => simp [nextRow, scan_length]
theorem rowAt_length (n : Nat) : ∀ l, l ≤ n → (rowAt n l).length = n + 1 - l
  | 0, _ => by simp [rowAt]
  | l + 1, h => by
    have i := rowAt_length n l (by omega)
    show (nextRow (rowAt n l)).length = _
    rw [nextRow_length (by omega), i]
    omega
theorem cnt_cat : ((List.range 61).all fun n => decide (n = 0 ∨ (rowAt n n)[0]? = some (cat n))) = true := by decide +kernel
theorem cat_conv : ((List.range 60).all fun m => decide (((List.range (m + 1)).map fun k => cat k * cat (m - k)).sum = cat (m + 1))) = true := by decide +kernel
theorem cat_big : ((List.range 61).all fun m => decide (0 ≤ cat m ∧ cat m < 10 ^ 40 ∧ (m ≤ 30 → cat m ≤ 2 ^ 62))) = true := by decide +kernel
theorem catT_length : catT.length = 61 := by decide +kernel
theorem cnt_cat' {n : Nat} (h : n ≤ 60) (h0 : 0 < n) : (rowAt n n)[0]? = some (cat n) := by
  have := List.all_eq_true.mp cnt_cat n (List.mem_range.mpr (by omega))
  rcases of_decide_eq_true this with z | z
  · omega
  · exact z
theorem cat_conv' {m : Nat} (h : m < 60) : ((List.range (m + 1)).map fun k => cat k * cat (m - k)).sum = cat (m + 1) := of_decide_eq_true (List.all_eq_true.mp cat_conv m (List.mem_range.mpr h))
theorem cat_big' {m : Nat} (h : m ≤ 60) : 0 ≤ cat m ∧ cat m < 10 ^ 40 ∧ (m ≤ 30 → cat m ≤ 2 ^ 62) := of_decide_eq_true (List.all_eq_true.mp cat_big m (List.mem_range.mpr (by omega)))
/-- the entries of the next row, one by one -/
theorem scan_take {p : Int} : ∀ {l : List Int} {i : Nat}, i < l.length → (scan p l).take (i + 1) = (scan p l).take i ++ [(if i = 0 then p else en (scan p l) (i - 1)) + en l i]
  | [], i, h => by simp at h
  | x :: r, 0, h => by simp [scan, en]
  | x :: r, i + 1, h => by
    have ih := scan_take (p := p + x) (l := r) (i := i) (by simpa using h)
    cases i with
    | zero =>
      simp only [scan, List.take_succ_cons, List.take_zero, List.nil_append, if_pos] at ih ⊢
      rw [ih]
      simp [en]
    | succ i =>
      rw [if_neg (by omega)] at ih ⊢
      simp only [scan, List.take_succ_cons, List.cons_append] at ih ⊢
      rw [ih]
      simp [en]
theorem nextRow_take {sh : List Int} {i : Nat} (h : i + 2 < sh.length) : (nextRow sh).take (i + 2) = (nextRow sh).take (i + 1) ++ [en ((nextRow sh).take (i + 1)) i + en sh (i + 2)] := by
  match sh, h with
  | a :: b :: r, h =>
    have hr : i < r.length := by simpa using h
    have := scan_take (p := b) hr
    simp only [nextRow, List.take_succ_cons, List.cons_append]
    rw [this]
    congr 3
    cases i with
    | zero => simp [en]
    | succ i =>
      rw [if_neg (by omega)]
      have : i < (scan b r).length := by rw [scan_length]; omega
      simp [en, List.getElem?_take, this]
/-- all shapes, each with its open places -/
def ext (p : Nat) (q : List Int × List Int) : List (List Int × List Int) := (q.1 ++ [0], [(p : Int)]) :: (List.range q.2.length).map fun j => (q.1 ++ [(p : Int) - en q.2 (q.2.length - 1 - j)], q.2.take (q.2.length - j) ++ [(p : Int)])
def allSh : Nat → List (List Int × List Int)
  | 0 => [([], [])]
  | p + 1 => (allSh p).flatMap (ext p)
theorem allSh_bd : ((List.range 8).all fun m => decide ((allSh m).length ≤ 1000) && (allSh m).all fun q => decide (q.1.length ≤ 7 ∧ q.2.length ≤ 7)) = true := by decide +kernel
theorem allSh_cat : ((List.range 8).all fun m => decide (((allSh m).length : Int) = cat m)) = true := by decide +kernel
theorem allSh_len {m : Nat} (h : m ≤ 7) : (allSh m).length ≤ 1000 := by
  have := List.all_eq_true.mp allSh_bd m (List.mem_range.mpr (by omega))
  rw [Bool.and_eq_true] at this
  exact of_decide_eq_true this.1
theorem allSh_q {m : Nat} (h : m ≤ 7) {q : List Int × List Int} (hq : q ∈ allSh m) : q.1.length ≤ 7 ∧ q.2.length ≤ 7 := by
  have := List.all_eq_true.mp allSh_bd m (List.mem_range.mpr (by omega))
  rw [Bool.and_eq_true] at this
  exact of_decide_eq_true (List.all_eq_true.mp this.2 q hq)
theorem allSh_cat' {m : Nat} (h : m ≤ 7) : ((allSh m).length : Int) = cat m := of_decide_eq_true (List.all_eq_true.mp allSh_cat m (List.mem_range.mpr (by omega)))
def enc (q : List Int × List Int) : PyData := .tuple [tupI q.1, tupI q.2]
end Sh
/-! the first store into a new exception of an own class, over any base -/
namespace Gd
open PySem PySem.Spec PyProof.Rows PySem.HandSPX PySem.W
open PySem.Builtin PySem.Builtin.ObjectAttr
section
variable {prog : Program} {w : World} {A : Around} {R : Result → Shared → Prop} {hp : Heap} {g : Array GenState} {d : Drawn} {t : Nat} {os : OsState}
theorem osaX {K : W.Frag} {name : Str} {tk : Tok} {v : Value} {x C : Addr} {fv : Array Value} {cd : ClassData} {tl : List Value} (pass : ∀ self : Value, refuseLoop self "__setattr__" tl = pure ()) (obj : tl.contains (.type "object") = true)
    (X : K.In hp) (hx : hp.get? x = some { cls := .ref C, data := .fields fv }) (hcd : W.clsIn K C = some cd) (hm : excTail tl cd.mro = true) (hh : cd.hasDict = true) (ha : W.findIn K (.ref C) name = some none)
    (q : ∀ h' tk' dx, (∀ b o, b ≠ x → hp.get? b = some o → h'.get? b = some o) → hp.objs.size ≤ dx → dx ≠ x → h'.get? x = some { cls := .ref C, dict := some dx, data := .fields fv } →
      h'.Ns1 dx (fun y => if y = name then some v else none) → R (.ok (.ret .none)) ⟨h', g, d, tk', os⟩) :
    codeAny (model prog w) A (.call (.builtin "object.__setattr__") ⟨[.ref x, .str name tk, v], []⟩) R ⟨hp, g, d, t, os⟩ := by
  have inst : W.InstAt hp x { cls := .ref C, data := .fields fv } C none := ⟨hx, rfl, rfl, trivial⟩
  have SF := PySem.F.store_object
  have isObj : cd.mro.contains (.type "object") = true := (excTail_contains "object" _ hm).trans obj
  have full : cd.mro.isEmpty = false := by
    cases z : cd.mro with
    | nil => rw [z] at isObj; cases isObj
    | cons _ _ => rfl
  have off : x ≠ hp.objs.size := Nat.ne_of_lt (Heap.lt_size hx)
  have sub : W.Looks (model prog w) hp (isInstance (.ref x) (.type "object")) true := by
    refine inst.type.andThen (W.looks_mroIn X ?_)
    unfold W.mroIn
    rw [hcd, Option.bind_some, if_neg (by rw [full]; decide), isObj]
  refine codeAny_call_builtin SF.slot.plain SF.entry ?_
  refine @W.check_slot (model prog w) _ _ ⟨hp, g, d, t, os⟩ "object.__setattr__" "object" "__setattr__" (.ref x) [.str name tk, v] [] _ SF.kind SF.split sub (SF.args (.ref x) (.str name tk) v) ?_
  have order : W.Looks (model prog w) hp (mroOf (.ref C)) cd.mro := (W.looks_clsIn X hcd).andThen .now
  have taker : W.Looks (model prog w) hp (storeTaker? none) none := .now
  have data : W.Looks (model prog w) hp (classData C) cd := W.looks_clsIn X hcd
  rw [W.osa_eq, refuse_eq]
  refine wpAny_bind (wpAny_bind (inst.type.at (wpAny_bind (order.at ?_))))
  rw [excTail_pass (.ref x) (pass _) _ hm]
  refine wpAny_pure (wpAny_bind (inst.type.at (wpAny_bind ((W.looks_findIn X ha).at ?_))))
  refine wpAny_bind (taker.at ?_)
  show wpAny _ _ (storeInOwnDict (.ref x) (.ref C) (.str name tk) name v false) _ _ _
  obtain ⟨nm, bs, mro, ns, qn, hd, sn, sb, ab, col, del⟩ := cd
  dsimp only at hh
  subst hh
  unfold storeInOwnDict ownDictForStores
  repeat (first | with_reducible refine store_in_new ?_ ?_ | with_reducible refine wpAny_loadPart_at hx ?_ | with_reducible refine data.at ?_ | wp_step)
  · refine ⟨_, #[], _, (Heap.get?_update_ne _ _ _ _ off.symm).trans (Heap.get?_push_at rfl rfl), rfl, ?_, fun _ => rfl⟩
    intro e he
    exact absurd he (by simp)
  · intro h' tk' hn' hs
    have was : (hp.push { cls := .type "dict", data := .dict #[] }).get? x = some { cls := .ref C, data := .fields fv } := Heap.get?_push_of_some _ hx
    refine q h' tk' hp.objs.size ?_ (Nat.le_refl _) off.symm ((hs.2 x off).trans (Heap.get?_update_self _ was rfl)) hn'
    intro b o hb ho
    exact (hs.2 b (Nat.ne_of_lt (Heap.lt_size ho))).trans ((Heap.get?_update_ne _ _ _ _ hb).trans (Heap.get?_push_of_some _ ho))
end
end Gd
namespace Lw
open PySem PySem.Spec PyProof.Rows L2 Gd Dl Sh
local macro_rules | `(tactic| walk_at "go") => `(tactic| repeat (refine opt_of rfl ?_))
local macro_rules | `(tactic| walk_at "en") => `(tactic| dsimp only [dBor, dVar, setsD, List.set_cons_zero, List.set_cons_succ, List.getElem?_cons_zero, List.getElem?_cons_succ])
abbrev G_MAX_COUNT : Int := 60
def isW : PyData → Bool
  | .int _ => true
  | _ => false
def plcD (m : Int) : PyData → Bool
  | .int v => decide (0 ≤ v ∧ v < m)
  | _ => false
def winD (m : Int) : PyData → PyData → Bool
  | .int a, .int b => decide (0 ≤ a ∧ a ≤ b ∧ b < m)
  | _, _ => false
theorem winD_el {m : Int} {f l : PyData} (h : winD m f l = true) : ∃ (a k : Nat), f = .int a ∧ l = .int (a + k : Nat) ∧ ((a + k : Nat) : Int) < m := by
  unfold winD at h
  split at h
  · rename_i a b
    have := of_decide_eq_true h
    exact ⟨a.toNat, (b - a).toNat, by rw [Int.toNat_of_nonneg (by omega)], by congr 1; omega, by omega⟩
  · cases h
theorem winD_of {m : Int} {f l : PyData} (h1 : plcD m f = true) (h2 : plcD m l = true) : ∃ a b : Int, f = .int a ∧ l = .int b ∧ (0 ≤ a ∧ a < m) ∧ (0 ≤ b ∧ b < m) := by
  unfold plcD at h1 h2
  split at h1
  · split at h2
    · exact ⟨_, _, rfl, rfl, of_decide_eq_true h1, of_decide_eq_true h2⟩
    · cases h2
  · cases h1
theorem winD_no1 {m : Int} {f l : PyData} (h1 : plcD m f = false) : winD m f l = false := by
  unfold winD
  split
  · have := of_decide_eq_false (show decide _ = false from h1)
    exact decide_eq_false fun z => this ⟨z.1, by omega⟩
  · rfl
theorem winD_no2 {m : Int} {f l : PyData} (h1 : plcD m l = false) : winD m f l = false := by
  unfold winD
  split
  · have := of_decide_eq_false (show decide _ = false from h1)
    exact decide_eq_false fun z => this ⟨by omega, z.2.2⟩
  · rfl
def C_is_whole : Con := fun _ as n Q => ∃ d, as = [.d d] ∧ Q (.bool (isW d)) n
def C_is_place : Con := fun _ as n Q => ∃ (m : Int) (d : PyData), as = [.d (.int m), .d d] ∧ Q (.bool (plcD m d)) n
theorem ix_tupD {ds : List PyData} {i : Nat} {x : Int} (e : x = (i : Nat)) (h : i < ds.length) : gIx (.tuple ds) (.int x) = some (ds.getD i .none) := by
  subst e
  show atI ds (i : Int) = _
  unfold atI
  rw [ixN_nat rfl h]
  show ds[i]? = _
  rw [List.getD_eq_getElem?_getD, List.getElem?_eq_getElem h]
  rfl
def iv : PyData → Int
  | .int v => v
  | _ => 0
def ev (ds : List PyData) (j : Nat) : Int := iv (ds.getD j .none)
/-- the open places from s on downwards -/
def chn (e : Nat → Int) : Nat → Nat → List Nat
  | 0, s => [s]
  | f + 1, s => s :: if 0 < e s then chn e f (s - (e s).toNat) else []
def okB (ds : List PyData) (p : Nat) : Bool := match ds.getD p .none with
  | .int v => decide (0 ≤ v) && (decide (v = 0) || (decide (0 < p) && (chn (ev ds) p (p - 1)).any fun t => decide (v = (p : Int) - (t : Nat))))
  | _ => false
def isShB (m : Nat) : PyData → Bool
  | .tuple ds => decide (1 ≤ ds.length) && decide (ds.length ≤ m) && (List.range ds.length).all (okB ds)
  | _ => false
def dsL (ds : List PyData) (p : Nat) : List Int := 0 :: if 0 < p then (chn (ev ds) p (p - 1)).map fun t => (p : Int) - (t : Nat) else []
theorem chn_le {e : Nat → Int} : ∀ {f s x : Nat}, x ∈ chn e f s → x ≤ s
  | 0, s, x, h => by rw [chn, List.mem_singleton] at h; omega
  | f + 1, s, x, h => by
    rw [chn, List.mem_cons] at h
    rcases h with rfl | h
    · exact Nat.le_refl _
    · split at h
      · have := chn_le h
        omega
      · cases h
theorem chn_head {e : Nat → Int} {f s : Nat} : s ∈ chn e f s := by cases f <;> simp [chn]
theorem chn_len {e : Nat → Int} : ∀ {f s : Nat}, (chn e f s).length ≤ f + 1
  | 0, s => by simp [chn]
  | f + 1, s => by
    rw [chn, List.length_cons]
    split
    · have := chn_len (e := e) (f := f) (s := s - (e s).toNat)
      omega
    · simp
theorem chn_stop {e : Nat → Int} {f s : Nat} (h : ¬ 0 < e s) : chn e f s = [s] := by
  cases f with
  | zero => rfl
  | succ f => rw [chn, if_neg h]
theorem okB_el {ds : List PyData} {j : Nat} (h : okB ds j = true) : j < ds.length ∧ ds.getD j .none = .int (ev ds j) ∧ 0 ≤ ev ds j ∧ ev ds j ≤ j := by
  unfold okB at h
  split at h
  · rename_i v e
    have e2 : ev ds j = v := by unfold ev; rw [e]; rfl
    simp only [Bool.and_eq_true, Bool.or_eq_true, decide_eq_true_eq, List.any_eq_true] at h
    obtain ⟨h0, h1⟩ := h
    refine ⟨?_, by rw [e2, e], by omega, ?_⟩
    · refine Classical.byContradiction fun n => ?_
      rw [List.getD_eq_getElem?_getD, List.getElem?_eq_none (by omega)] at e
      cases e
    · rcases h1 with h1 | ⟨h1, t, ht, h2⟩ <;> omega
  · cases h
theorem okB_iff {ds : List PyData} {p : Nat} {v : Int} (e : ds.getD p .none = .int v) : okB ds p = decide (v ∈ dsL ds p ∧ 0 ≤ v) := by
  unfold okB dsL
  rw [e]
  show (decide (0 ≤ v) && _) = _
  by_cases h0 : 0 ≤ v
  · rw [decide_eq_true h0, Bool.true_and]
    by_cases hp : 0 < p
    · rw [decide_eq_true hp, if_pos hp, Bool.true_and, Bool.eq_iff_iff]
      simp only [Bool.or_eq_true, decide_eq_true_eq, List.any_eq_true, List.mem_cons, List.mem_map]
      constructor
      · rintro (h | ⟨t, ht, h⟩)
        · exact ⟨.inl h, h0⟩
        · exact ⟨.inr ⟨t, ht, h.symm⟩, h0⟩
      · rintro ⟨h | ⟨t, ht, h⟩, _⟩
        · exact .inl h
        · exact .inr ⟨t, ht, h.symm⟩
    · rw [decide_eq_false hp, if_neg hp, Bool.false_and, Bool.or_false, Bool.eq_iff_iff]
      simp only [decide_eq_true_eq, List.mem_singleton]
      exact ⟨fun h => ⟨h, h0⟩, fun h => h.1⟩
  · rw [decide_eq_false h0, Bool.false_and, Bool.eq_iff_iff]
    simp only [decide_eq_true_eq]
    exact ⟨fun h => (by cases h), fun h => absurd h.2 h0⟩
theorem dsL_nn {ds : List PyData} {p : Nat} {v : Int} (h : v ∈ dsL ds p) : 0 ≤ v ∧ v ≤ p := by
  unfold dsL at h
  rcases List.mem_cons.mp h with rfl | h
  · omega
  · split at h
    · obtain ⟨t, ht, rfl⟩ := List.mem_map.mp h
      have := chn_le ht
      omega
    · cases h
theorem isSh_no {m : Nat} {ds : List PyData} {p : Nat} (hp : p < ds.length) (h : okB ds p = false) : isShB m (.tuple ds) = false := by
  show (decide (1 ≤ ds.length) && decide (ds.length ≤ m) && (List.range ds.length).all (okB ds)) = false
  rw [Bool.and_eq_false_iff]
  right
  rw [List.all_eq_false]
  exact ⟨p, List.mem_range.mpr hp, by rw [h]; decide⟩
theorem isSh_yes {m : Nat} {ds : List PyData} (h1 : 1 ≤ ds.length) (h2 : ds.length ≤ m) (h : ∀ j, j < ds.length → okB ds j = true) : isShB m (.tuple ds) = true := by
  show (decide (1 ≤ ds.length) && decide (ds.length ≤ m) && (List.range ds.length).all (okB ds)) = true
  rw [decide_eq_true h1, decide_eq_true h2]
  simpa using h
theorem isSh_len {m : Nat} {ds : List PyData} (h : ¬ (1 ≤ ds.length ∧ ds.length ≤ m)) : isShB m (.tuple ds) = false := by
  show (decide (1 ≤ ds.length) && decide (ds.length ≤ m) && (List.range ds.length).all (okB ds)) = false
  rw [Bool.and_eq_false_iff]
  left
  rw [← Bool.decide_and, decide_eq_false h]
def C_distances_at : Con := fun _ as n Q => ∃ (ds : List PyData) (p : Nat), as = [.d (.tuple ds), .d (.int p)] ∧ p ≤ ds.length ∧ p ≤ 60 ∧ (∀ j, j < p → okB ds j = true) ∧ Q (lstI (dsL ds p)) n
def C_is_shape_up_to : Con := fun _ as n Q => ∃ (m : Nat) (d : PyData), as = [.d (.int m), .d d] ∧ m ≤ 60 ∧ Q (.bool (isShB m d)) n
def C_endings : Con := fun _ as n Q => ∃ m : Nat, as = [.d (.int m)] ∧ m ≤ 60 ∧ Q (.list ((List.range (m + 1)).map fun l => lstI (rowAt m l))) n
def rsa (m c : Nat) : Nat := if c = 0 then 1 else m + 1 - c
def C_rises_after : Con := fun _ as n Q => ∃ (ds : List Int) (c : Nat), as = [.d (lstI ds), .d (.int c)] ∧ c ≤ ds.length ∧ Q (.int (rsa ds.length c : Nat)) n
def C_count_shapes : Con := fun _ as n Q => ∃ m : Nat, as = [.d (.int m)] ∧ 0 < m ∧ m ≤ 60 ∧ Q (.int (cat m)) n
section
variable {P : Program} {w : World} {K : PySem.W.Frag} {mg : Str → Option Value} {base : Heap}
abbrev s_is_whole : Stmt := topS 6
abbrev N_is_whole : List Str := ["value"]
theorem sc_is_whole : FnScope N_is_whole ["value"] (defScope s_is_whole) := ⟨rfl, rfl, rfl, by decide +kernel, rfl, by decide +kernel, by decide +kernel⟩
-- slots: 0 value
theorem ok_is_whole {f : Addr} {fd : FuncData} {k : Nat}  (F : Fun K "is_whole" "is_whole" s_is_whole f fd) (m_bool : mg "bool" = none) (m_int : mg "int" = none) (m_isinstance : mg "isinstance" = none) : FnOk P w K mg base CX0 (k + 1) f fd ["value"] (spD C_is_whole 1) := by
  refine okD F sc_is_whole (fun G cdv A fr s H E hr =>
        (zs_one (z_ret (PB.of (pd_and (pd_isi_int (pb_var (pv 0)) m_isinstance m_int) (pd_one (pd_not (pd_isi_bool (pb_var (pv 0)) m_isinstance m_bool)))))))) (fun G as n Q hl hc => ?_)
  obtain ⟨d, rfl, q⟩ := hc
  cases d <;> (walk_at "go"; exact q)
abbrev s_is_place : Stmt := topS 7
abbrev N_is_place : List Str := ["many", "value"]
theorem sc_is_place : FnScope N_is_place ["many", "value"] (defScope s_is_place) := ⟨rfl, rfl, rfl, by decide +kernel, rfl, by decide +kernel, by decide +kernel⟩
-- slots: 0 many, 1 value
theorem ok_is_place {f : Addr} {fd : FuncData} {k : Nat} {f_is_whole : Addr} {d_is_whole : FuncData} (F : Fun K "is_place" "is_place" s_is_place f fd) (c_is_whole : Cd P w K mg base k "is_whole" f_is_whole d_is_whole ["value"] C_is_whole) : FnOk P w K mg base CX0 (k + 1) f fd ["many", "value"] (spD C_is_place 2) := by
  refine okD F sc_is_place (fun G cdv A fr s H E hr =>
        (zs_one (z_ret (PB.of (pd_and (pd_call c_is_whole.G hr c_is_whole.g c_is_whole.kp c_is_whole.b (pr_cons (pd_var (pv 1)) pr_nil)) (pd_one (pd_chain op_le op_lt l_le l_lt (PB.of pd_int) (pb_var (pv 1)) (pb_var (pv 0))))))))) (fun G as n Q hl hc => ?_)
  obtain ⟨m, d, rfl, q⟩ := hc
  walk_at "go"
  walk_at "go"; refine And.intro rfl ⟨d, rfl, ?_⟩
  cases d with
  | int v =>
    walk_at "go"
    dsimp only [isW]
    by_cases h0 : 0 ≤ v
    · rw [decide_eq_true h0]
      walk_at "go"
      have : decide (v < m) = plcD m (.int v) := decide_eq_decide.mpr ⟨fun h => ⟨h0, h⟩, fun h => h.2⟩
      rw [← this] at q
      walk_at "go"; exact q
    · rw [decide_eq_false h0]
      have : plcD m (.int v) = false := decide_eq_false fun h => h0 h.1
      rw [this] at q
      walk_at "go"; exact q
  | _ => exact q
abbrev s_distances_at : Stmt := topS 9
abbrev N_distances_at : List Str := ["shape", "place", "found", "distance"]
theorem sc_distances_at : FnScope N_distances_at ["shape", "place"] (defScope s_distances_at) := ⟨rfl, rfl, rfl, by decide +kernel, rfl, by decide +kernel, by decide +kernel⟩
-- slots: 0 shape, 1 place, 2 found, 3 distance
theorem ok_distances_at {f : Addr} {fd : FuncData} {k : Nat}  (F : Fun K "distances_at" "distances_at" s_distances_at f fd)  : FnOk P w K mg base CX0 (k + 1) f fd ["shape", "place"] (spD C_distances_at 2) := by
  refine okD F sc_distances_at (fun G cdv A fr s H E hr =>
        (zs_cons (z_own (i := 2) sc_distances_at.nd rfl (by first | exact .inl rfl | exact .inr rfl) (pl_lst (pr_cons pd_int pr_nil)))
        (zs_cons (z_if (pq_cmp op_gt l_gt (pb_var (pv 1)) (PB.of pd_int) (nomark _))
          (zs_cons (z_set (i := 3) sc_distances_at.nd rfl (by first | exact .inl rfl | exact .inr rfl) pd_int)
          (zs_cons (z_app (pv 2) (pd_var (pv 3)))
          (zs_one (z_while PassesOwn.never (pq_cmp op_gt l_gt (PB.of (pd_ix (pb_var (pv 0)) (PB.of (pd_sub (pb_var (pv 1)) (pb_var (pv 3)))) (fun _ _ => rfl))) (PB.of pd_int) (nomark _))
            (zs_cons (z_aug (i := 3) sc_distances_at.nd rfl (by first | exact .inl rfl | exact .inr rfl) (pd_ix (pb_var (pv 0)) (PB.of (pd_sub (pb_var (pv 1)) (pb_var (pv 3)))) (fun _ _ => rfl)) ip_add)
            (zs_one (z_app (pv 2) (pd_var (pv 3)))))))))
          zs_nil)
        (zs_one (z_ret (pb_var (pv 2))))))) (fun G as n Q hl hc => ?_)
  obtain ⟨ds, p, rfl, hp, h60, hok, q⟩ := hc
  walk_at "go"; refine And.intro (rfl) ?_
  walk_at "go"; try dsimp only [List.set_cons_zero, List.set_cons_succ]
  by_cases p0 : 0 < p
  · rw [decide_eq_true (by omega : (0 : Int) < (p : Nat))]
    walk_at "go"
    refine ⟨by decide, ?_⟩
    walk_at "go"
    refine ⟨fun m E => ∃ (f : Nat) (done : List Nat), m ≤ f ∧ m < p ∧ chn (ev ds) p (p - 1) = done ++ chn (ev ds) f m ∧ E = ⟨[.dat (.tuple ds), .dat (.int p), .own ((0 :: (done ++ [m]).map fun q : Nat => (p : Int) - (q : Nat)).map dI), .dat (.int ((p : Int) - (m : Nat)))], n⟩, ⟨p - 1, p, [], by omega, by omega, rfl, ?_⟩, ?_⟩
    · show _ = (⟨[.dat (.tuple ds), .dat (.int p), .own [.int 0, .int ((p : Int) - ((p - 1 : Nat) : Int))], .dat (.int ((p : Int) - ((p - 1 : Nat) : Int)))], n⟩ : En)
      rw [show (p : Int) - ((p - 1 : Nat) : Int) = 1 by omega]
      rfl
    rintro t E ⟨f, done, tf, ht, hd, rfl⟩
    have et : ((p : Nat) : Int) - ((p : Int) - (t : Nat)) = (t : Nat) := by omega
    obtain ⟨l1, l2, l3, l4⟩ := okB_el (hok t ht)
    walk_at "go"; refine opt_of (ix_tupD (ds := ds) (i := t) et (by omega)) ?_
    rw [l2]
    walk_at "go"; try dsimp only [List.set_cons_zero, List.set_cons_succ]
    by_cases z : 0 < ev ds t
    · rw [decide_eq_true z]
      walk_at "go"; refine opt_of (ix_tupD (ds := ds) (i := t) et (by omega)) ?_
      rw [l2]
      walk_at "go"
      obtain ⟨f, rfl⟩ : ∃ g, f = g + 1 := ⟨f - 1, by omega⟩
      rw [chn, if_pos z] at hd
      have ln : done.length < 100 := by
        have := chn_len (e := ev ds) (f := p) (s := p - 1)
        rw [hd] at this
        simp at this
        omega
      refine ⟨by simp; omega, t - (ev ds t).toNat, by omega, f, done ++ [t], by omega, by omega, by rw [hd]; simp, ?_⟩
      have e1 : ((p : Int) - (t : Nat)) + ev ds t = (p : Int) - ((t - (ev ds t).toNat : Nat) : Int) := by omega
      dsimp only [List.set_cons_zero, List.set_cons_succ]
      rw [e1]
      simp [List.map_append]
    · rw [decide_eq_false z]
      rw [chn_stop z] at hd
      walk_at "go"
      unfold dsL at q
      rw [if_pos p0, hd] at q
      walk_at "go"; exact q
  · rw [decide_eq_false (by omega : ¬ (0 : Int) < (p : Nat))]
    unfold dsL at q
    rw [if_neg p0] at q
    walk_at "go"; exact q
abbrev s_is_shape_up_to : Stmt := topS 10
abbrev N_is_shape_up_to : List Str := ["most", "value", "place", "item"]
theorem sc_is_shape_up_to : FnScope N_is_shape_up_to ["most", "value"] (defScope s_is_shape_up_to) := ⟨rfl, rfl, rfl, by decide +kernel, rfl, by decide +kernel, by decide +kernel⟩
-- slots: 0 most, 1 value, 2 place, 3 item
theorem ok_is_shape_up_to {f : Addr} {fd : FuncData} {k : Nat} {f_distances_at : Addr} {d_distances_at : FuncData} {f_is_whole : Addr} {d_is_whole : FuncData} (F : Fun K "is_shape_up_to" "is_shape_up_to" s_is_shape_up_to f fd) (c_distances_at : Cd P w K mg base k "distances_at" f_distances_at d_distances_at ["shape", "place"] C_distances_at) (c_is_whole : Cd P w K mg base k "is_whole" f_is_whole d_is_whole ["value"] C_is_whole) (m_enumerate : mg "enumerate" = none) (m_isinstance : mg "isinstance" = none) (m_len : mg "len" = none) (m_tuple : mg "tuple" = none) : FnOk P w K mg base CX0 (k + 1) f fd ["most", "value"] (spD C_is_shape_up_to 2) := by
  refine okD F sc_is_shape_up_to (fun G cdv A fr s H E hr =>
        (zs_cons (z_if (PW.pt (w_or (pq_not (pq_val (pd_isi_tuple (pb_var (pv 1)) m_isinstance m_tuple))) (w_or1 (pq_not (pq_chain op_le op_le l_le l_le (PB.of pd_int) (PB.of (pd_len (pb_var (pv 1)) m_len)) (pb_var (pv 0)))))))
          (zs_one (z_ret (PB.of pd_bl)))
          zs_nil)
        (zs_cons (z_for (tg := (.tp [2, 3])) PassesOwn.never rfl (j_enumT (pd_var (pv 1)) m_enumerate) (pg_tup rfl (pgs_cons (pg_name (i := 2) sc_is_shape_up_to.nd rfl (by first | exact .inl rfl | exact .inr rfl)) (pgs_cons (pg_name (i := 3) sc_is_shape_up_to.nd rfl (by first | exact .inl rfl | exact .inr rfl)) pgs_nil)))
          (zs_one (z_if (PW.pt (w_or (pq_not (pq_val (pd_call c_is_whole.G hr c_is_whole.g c_is_whole.kp c_is_whole.b (pr_cons (pd_var (pv 3)) pr_nil)))) (w_or1 (pq_cmp (op_notInX (units65 hr)) l_inX (pb_var (pv 3)) (PB.of (pd_call c_distances_at.G hr c_distances_at.g c_distances_at.kp c_distances_at.b (pr_cons (pd_var (pv 1)) (pr_cons (pd_var (pv 2)) pr_nil)))) (by rfl)))))
            (zs_one (z_ret (PB.of pd_bl)))
            zs_nil)))
        (zs_one (z_ret (PB.of pd_bl)))))) (fun G as n Q hl hc => ?_)
  obtain ⟨m, d, rfl, hm, q⟩ := hc
  cases d with
  | tuple ds =>
    walk_at "go"; try dsimp only [List.set_cons_zero, List.set_cons_succ]
    by_cases h1 : 1 ≤ ds.length
    · rw [decide_eq_true (by omega : (1 : Int) ≤ (ds.length : Nat))]
      walk_at "go"; try dsimp only [List.set_cons_zero, List.set_cons_succ]
      by_cases h2 : ds.length ≤ m
      · rw [decide_eq_true (by omega : ((ds.length : Nat) : Int) ≤ (m : Nat))]
        walk_at "go"
        walk_at "go"; refine for_L _ (fun i E => ∃ y2 y3, E = ⟨[.dat (.int m), .dat (.tuple ds), y2, y3], n⟩ ∧ ∀ j, j < i → okB ds j = true) ⟨_, _, rfl, fun j hj => by omega⟩ (fun i d E D' hd h nx ct bk rt => ?_) (fun E h => ?_)
        · obtain ⟨y2, y3, rfl, hok⟩ := h
          rw [enumD_get, Option.map_eq_some_iff] at hd
          obtain ⟨x, hx, rfl⟩ := hd
          obtain ⟨hi, ex⟩ := List.getElem?_eq_some_iff.mp hx
          have eg : ds.getD i .none = x := by rw [List.getD_eq_getElem?_getD, hx]; rfl
          walk_at "go"
          walk_at "go"; refine And.intro rfl ⟨x, rfl, ?_⟩
          cases hw : isW x with
          | false =>
            have hno : okB ds i = false := by
              unfold okB
              rw [eg]
              cases x <;> first | rfl | cases hw
            show D'.rt (.bool false) n
            rw [rt]
            rw [isSh_no hi hno] at q
            walk_at "go"; exact q
          | true =>
            obtain ⟨v, rfl⟩ : ∃ v, x = .int v := by cases x <;> first | exact ⟨_, rfl⟩ | cases hw
            walk_at "go"
            walk_at "go"; refine And.intro rfl ⟨ds, i, rfl, by omega, by omega, hok, ?_⟩
            walk_at "go"; refine opt_of (inX_ints) ?_
            have ob := okB_iff eg
            by_cases hv : v ∈ dsL ds i
            · have := dsL_nn hv
              rw [decide_eq_true ⟨hv, this.1⟩] at ob
              rw [decide_eq_true hv]
              walk_at "go"; exact nx _ ⟨_, _, rfl, fun j hj => by rcases Nat.lt_succ_iff_lt_or_eq.mp hj with h | rfl; exact hok j h; exact ob⟩
            · rw [decide_eq_false (fun z => hv z.1)] at ob
              rw [decide_eq_false hv]
              show D'.rt (.bool false) n
              rw [rt]
              rw [isSh_no hi ob] at q
              walk_at "go"; exact q
        · obtain ⟨y2, y3, rfl, hok⟩ := h
          rw [isSh_yes h1 h2 (fun j hj => hok j (by have : (enumD ds).length = ds.length := enumFrom_length ds 0; omega))] at q
          walk_at "go"; exact q
      · rw [decide_eq_false (by omega : ¬ ((ds.length : Nat) : Int) ≤ (m : Nat))]
        rw [isSh_len (by omega)] at q
        walk_at "go"; exact q
    · rw [decide_eq_false (by omega : ¬ (1 : Int) ≤ (ds.length : Nat))]
      rw [isSh_len (by omega)] at q
      walk_at "go"; exact q
  | _ => (walk_at "go"; exact q)
abbrev s_endings : Stmt := topS 12
abbrev N_endings : List Str := ["n", "table", "left", "shorter", "counts", "rises"]
theorem sc_endings : FnScope N_endings ["n"] (defScope s_endings) := ⟨rfl, rfl, rfl, by decide +kernel, rfl, by decide +kernel, by decide +kernel⟩
-- slots: 0 n, 1 table, 2 left, 3 shorter, 4 counts, 5 rises
theorem ok_endings {f : Addr} {fd : FuncData} {k : Nat}  (F : Fun K "endings" "endings" s_endings f fd) (m_range : mg "range" = none) : FnOk P w K mg base CX0 (k + 1) f fd ["n"] (spD C_endings 1) := by
  refine okD F sc_endings (fun G cdv A fr s H E hr =>
        (zs_cons (z_own (i := 1) sc_endings.nd rfl (by first | exact .inl rfl | exact .inr rfl) (pl_lst (pr_cons (PD.ofL (pl_lc (own := [("rises", 5)]) (tg := (.nm 5)) rfl sc_endings.nd (j_range1 (pd_add (pb_var (pv 0)) (PB.of pd_int)) m_range) (blkOk_by (N := N_endings) (sc := defScope s_endings) (by decide +kernel)) (fun _ _ _ _ _ => (pg_name (i := 5) sc_endings.nd rfl (by first | exact .inl rfl | exact .inr rfl))) (fun _ _ _ _ _ => ts_nil) (fun _ _ _ _ _ => pd_int) (by simp [tgIn]))) pr_nil)))
        (zs_cons (z_for (tg := (.nm 2)) PassesOwn.never rfl (j_range2 pd_int (pd_add (pb_var (pv 0)) (PB.of pd_int)) m_range) (pg_name (i := 2) sc_endings.nd rfl (by first | exact .inl rfl | exact .inr rfl))
          (zs_cons (z_set (i := 3) sc_endings.nd rfl (by first | exact .inl rfl | exact .inr rfl) (pd_ix (pb_var (pv 1)) (PB.of (pd_sub (pb_var (pv 2)) (PB.of pd_int))) (fun _ _ => rfl)))
          (zs_cons (z_own (i := 4) sc_endings.nd rfl (by first | exact .inl rfl | exact .inr rfl) (pl_lst (pr_cons (pd_ix (pb_var (pv 3)) (PB.of pd_int) (fun _ _ => rfl)) pr_nil)))
          (zs_cons (z_for (tg := (.nm 5)) PassesOwn.never rfl (j_range2 pd_int (pd_add (PB.of (pd_sub (pb_var (pv 0)) (pb_var (pv 2)))) (PB.of pd_int)) m_range) (pg_name (i := 5) sc_endings.nd rfl (by first | exact .inl rfl | exact .inr rfl))
            (zs_one (z_app (pv 4) (pd_add (PB.of (pd_ix (pb_var (pv 4)) (PB.of (pd_sub (pb_var (pv 5)) (PB.of pd_int))) (fun _ _ => rfl))) (PB.of (pd_ix (pb_var (pv 3)) (PB.of (pd_add (pb_var (pv 5)) (PB.of pd_int))) (fun _ _ => rfl)))))))
          (zs_one (z_frz 4 (z_app (pv 1) (pd_var (pv 4)))))))))
        (zs_one (z_ret (pb_var (pv 1))))))) (fun G as n Q hl hc => ?_)
  obtain ⟨m, rfl, hm, q⟩ := hc
  walk_at "go"; refine And.intro ((dec2 (by omega))) ?_
  walk_at "go"; refine lc_R 0 _ (fun _ => true) (fun _ => .int 1) (fun i hi => ⟨_, rfl, fun n R r => r, fun _ n R r => r⟩) (by omega) ?_
  have e0 : ((List.range ((m : Int) + 1).toNat).filter fun _ => true).map (fun _ => PyData.int 1) = (rowAt m 0).map dI := by
    rw [List.filter_eq_self.mpr (fun _ _ => rfl)]
    have : ((m : Int) + 1).toNat = m + 1 := by omega
    rw [this]
    unfold rowAt
    simp [List.map_const']
  rw [e0]
  walk_at "go"; refine And.intro (rfl) ?_
  walk_at "go"; refine And.intro ((dec2 (by omega))) ?_
  walk_at "go"; refine for_R 1 _ (fun i E => ∃ y2 y3 y4 y5, E = ⟨[.dat (.int m), .own ((List.range (i + 1)).map fun l => lstI (rowAt m l)), y2, y3, y4, y5], n⟩) ⟨_, _, _, _, rfl⟩ (fun i E D' hi h nx ct bk rt => ?_) (fun E h => ?_)
  · obtain ⟨y2, y3, y4, y5, rfl⟩ := h
    have hi' : i < m := by omega
    have hlen := rowAt_length m i (by omega)
    walk_at "go"
    walk_at "go"; refine opt_of (ix_map (j := i) (by omega) (by omega)) ?_
    walk_at "go"; refine opt_of (ix_rowL (i := 1) rfl (by omega)) ?_
    walk_at "go"; refine And.intro (rfl) ?_
    walk_at "go"; refine And.intro ((dec2 (by omega))) ?_
    have hr1 : rowAt m (i + 1) = nextRow (rowAt m i) := rfl
    have hl1 := rowAt_length m (i + 1) (by omega)
    rw [hr1] at hl1
    generalize hsh : rowAt m i = sh at *
    have st : [dI (en sh 1)] = ((nextRow sh).take 1).map dI := by
      match sh, (show 2 ≤ sh.length by omega) with
      | a :: b :: r, _ => simp [nextRow, en]
    walk_at "go"; refine for_R 1 _ (fun r E => ∃ y5, E = ⟨[.dat (.int m), .own ((List.range (i + 1)).map fun l => lstI (rowAt m l)), .dat (.int (1 + (i : Nat))), .dat (lstI sh), .own (((nextRow sh).take (r + 1)).map dI), y5], n⟩) ⟨y5, ?_⟩ (fun r E D2 hr h nx2 ct2 bk2 rt2 => ?_) (fun E h => ?_)
    · rw [← st]
      rfl
    · obtain ⟨y5, rfl⟩ := h
      have hr' : r + 2 < sh.length := by omega
      walk_at "go"
      walk_at "go"; refine opt_of (ix_rowL (i := r) (by omega) (by rw [List.length_take]; omega)) ?_
      walk_at "go"; refine opt_of (ix_rowL (i := r + 2) (by omega) (by omega)) ?_
      walk_at "go"; refine And.intro ((by simp; omega)) ?_
      rw [nextRow_take hr', List.map_append] at nx2
      walk_at "go"; exact nx2 _ ⟨_, rfl⟩
    · obtain ⟨y5, rfl⟩ := h
      walk_at "go"; refine And.intro ((by simp; omega)) ?_
      have e1 : (nextRow sh).take (((m : Int) - (1 + (i : Nat)) + 1 - 1).toNat + 1) = nextRow sh := List.take_of_length_le (by omega)
      rw [List.range_succ (n := i + 1), List.map_append, List.map_cons, List.map_nil, hr1, ← e1] at nx
      walk_at "go"; exact nx _ ⟨_, _, _, _, rfl⟩
  · obtain ⟨y2, y3, y4, y5, rfl⟩ := h
    have : ((m : Int) + 1 - 1).toNat = m := by omega
    rw [this]
    walk_at "go"; exact q
abbrev s_rises_after : Stmt := topS 13
abbrev N_rises_after : List Str := ["distances", "chosen"]
theorem sc_rises_after : FnScope N_rises_after ["distances", "chosen"] (defScope s_rises_after) := ⟨rfl, rfl, rfl, by decide +kernel, rfl, by decide +kernel, by decide +kernel⟩
-- slots: 0 distances, 1 chosen
theorem ok_rises_after {f : Addr} {fd : FuncData} {k : Nat}  (F : Fun K "rises_after" "rises_after" s_rises_after f fd) (m_len : mg "len" = none) : FnOk P w K mg base CX0 (k + 1) f fd ["distances", "chosen"] (spD C_rises_after 2) := by
  refine okD F sc_rises_after (fun G cdv A fr s H E hr =>
        (zs_one (z_ret (PB.of (pd_if (pq_cmp (op_eqX hr.units) l_eq (pb_var (pv 1)) (PB.of pd_int) (nomark _)) pd_int (pd_sub (PB.of (pd_add (PB.of (pd_len (pb_var (pv 0)) m_len)) (PB.of pd_int))) (pb_var (pv 1)))))))) (fun G as n Q hl hc => ?_)
  obtain ⟨ds, c, rfl, hl, q⟩ := hc
  walk_at "go"; try dsimp only [List.set_cons_zero, List.set_cons_succ]
  walk_at "go"; refine opt_of (eq_int) ?_
  by_cases h : c = 0
  · subst h
    rw [decide_eq_true (by omega : ((0 : Nat) : Int) = 0)]
    walk_at "go"; exact q
  · rw [decide_eq_false (by omega : ¬ ((c : Nat) : Int) = 0)]
    walk_at "go"; try dsimp only [List.set_cons_zero, List.set_cons_succ]
    have : ((((ds.map dI).length : Nat) : Int) + 1 - (c : Nat)) = ((rsa ds.length c : Nat) : Int) := by
      unfold rsa
      rw [if_neg h, List.length_map]
      omega
    rw [this]
    walk_at "go"; exact q
abbrev s_count_shapes : Stmt := topS 14
abbrev N_count_shapes : List Str := ["n"]
theorem sc_count_shapes : FnScope N_count_shapes ["n"] (defScope s_count_shapes) := ⟨rfl, rfl, rfl, by decide +kernel, rfl, by decide +kernel, by decide +kernel⟩
-- slots: 0 n
theorem ok_count_shapes {f : Addr} {fd : FuncData} {k : Nat} {f_endings : Addr} {d_endings : FuncData} (F : Fun K "count_shapes" "count_shapes" s_count_shapes f fd) (c_endings : Cd P w K mg base k "endings" f_endings d_endings ["n"] C_endings) : FnOk P w K mg base CX0 (k + 1) f fd ["n"] (spD C_count_shapes 1) := by
  refine okD F sc_count_shapes (fun G cdv A fr s H E hr =>
        (zs_one (z_ret (PB.of (pd_if (pq_cmp op_gt l_gt (pb_var (pv 0)) (PB.of pd_int) (nomark _)) (pd_ix (PB.of (pd_ix (PB.of (pd_call c_endings.G hr c_endings.g c_endings.kp c_endings.b (pr_cons (pd_var (pv 0)) pr_nil))) (pb_var (pv 0)) (fun _ _ => rfl))) (PB.of pd_int) (fun _ _ => rfl)) pd_int))))) (fun G as n Q hl hc => ?_)
  obtain ⟨m, rfl, h0, hm, q⟩ := hc
  walk_at "go"; refine ifT (fun h => ?_) (fun h => ?_)
  · refine And.intro rfl ⟨m, rfl, hm, ?_⟩
    walk_at "go"; refine opt_of (ix_map (j := m) rfl (by omega)) ?_
    have hl := rowAt_length m m (Nat.le_refl _)
    walk_at "go"; refine opt_of (ix_rowL (i := 0) rfl (by omega)) ?_
    have := cnt_cat' hm h0
    have e : en (rowAt m m) 0 = cat m := by
      unfold en
      rw [List.getD_eq_getElem?_getD, this]
      rfl
    rw [e]
    walk_at "go"; exact q
  · have := of_decide_eq_false h
    omega
end
end Lw
/-! own errors held as values: made, asked for their classes, their fields read -/
namespace Gd
open PySem PySem.Spec PyProof.Rows L2
/-- an error of the class cls at a, its own dict at d -/
def ExD (cls : Value) (a d : Addr) : HO := .ext fun h => ∃ (oe : Obj) (vs : Array Value), h.get? a = some oe ∧ Zc cls (some d) oe ∧ oe.data = .fields vs
theorem exD_ok {P : Program} {w : World} {H : Hp} {h : Heap} {a d : Addr} {cls : Value} {oe : Obj} {vs : Array Value} (e : h.get? a = some oe) (z : Zc cls (some d) oe) (dt : oe.data = .fields vs) : ObjOk P w H h a (ExD cls a d) := by
  refine ⟨⟨oe, vs, e, z, dt⟩, ⟨oe, e⟩, ?_⟩
  rintro h1 h2 ⟨o, v, q, r⟩ k
  exact ⟨o, v, k o q, r⟩
/-- an error of the class at C stands at a -/
def ErrAt (H : Hp) (a C : Addr) : Prop := H a = some (ExO (.ref C) a) ∨ ∃ d fs, H a = some (ExD (.ref C) a d) ∧ H d = some (.xd fs)
theorem ErrAt.keep {H H' : Hp} {a C : Addr} (h : ErrAt H a C) (s : Same H H') : ErrAt H' a C := by
  rcases h with h | ⟨d, fs, h1, h2⟩
  · exact .inl (s _ _ h)
  · exact .inr ⟨d, fs, s _ _ h1, s _ _ h2⟩
/-- what isinstance asks of the class of an error -/
structure ExcV (K : PySem.W.Frag) (D : Addr) : Prop where
  cl : (PySem.W.clsIn K D).isSome = true
  ga : PySem.W.findIn K (.ref D) "__getattribute__" = some (some (.builtin "BaseException.__getattribute__"))
  gg : PySem.W.findIn K (.ref D) "__getattr__" = some none
  sb : PySem.W.subIn K (.ref D) (.type "BaseException") = some true
  ca : PySem.W.findIn K (.ref D) "__class__" = some (some (.builtin "object.__class__"))
  cg : PySem.W.specialIn K (.builtin "object.__class__") "__get__" = some (some (.builtin "getset_descriptor.__get__"))
  ct : PySem.W.takesIn K (.builtin "object.__class__") = some true
  co : PySem.W.mroIn K D (.type "object") = some true
structure OwnMade (fld : Str) (h h' : Heap) (e C d : Addr) (v : Value) : Prop where
  keep : ∀ b o, h.get? b = some o → h'.get? b = some o
  new : h.objs.size ≤ e
  obj : ∃ oe vs, h'.get? e = some oe ∧ oe.cls = .ref C ∧ oe.dict = some d ∧ oe.data = .fields vs
  dbig : h.objs.size ≤ d
  dne : d ≠ e
  ns : h'.Ns1 d (fun y => if y = fld then some v else none)
section
variable {X : Cx} {pins : List (Addr × Obj)} {σ : L2.St} {H : Hp} {s : Shared} {a C : Addr}
theorem ErrAt.inst (I : Inv X pins σ H s) (h : ErrAt H a C) : ∃ oe od, PySem.W.InstAt s.heap a oe C od := by
  rcases h with h | ⟨d, fs, h1, h2⟩
  · obtain ⟨⟨oe, vs, ho, hz, hd, _⟩, _, _⟩ := I.hok a _ h
    obtain ⟨oc, odd, oda, osl⟩ := oe
    obtain ⟨z1, z2⟩ := hz
    dsimp only at z1 z2 hd
    subst z1 z2 hd
    exact ⟨_, none, ho, rfl, rfl, trivial⟩
  · obtain ⟨⟨oe, vs, ho, hz, hd⟩, _, _⟩ := I.hok a _ h1
    have ox : ObjOk X.prog X.w H s.heap d (.xd fs) := I.hok d _ h2
    obtain ⟨mA, hns, _⟩ := ox
    obtain ⟨od, hod, _⟩ := lookIn_ns hns
    exact ⟨oe, some od, ho, hz.1, by unfold PySem.W.notCls; rw [hd] <;> rfl, by rw [hz.2]; exact hod⟩
def rIsV (K : PySem.W.Frag) : List V → Hp → VK → Prop := fun xs H Q => ∃ (a C : Addr) (c : V) (u : Value) (b : Bool), xs = [.ref a, c] ∧ ErrAt H a C ∧ ExcV K C ∧ ClsV c u ∧ PySem.W.kitOne K (.ref C) u = some b ∧ Q (.bl b) H
theorem call_isV : CallR X (.builtin "isinstance") (rIsV X.K) := by
  intro pins s σ H xs us Q I r want
  obtain ⟨a, C, c, u, b, rfl, ea, D, kc, e, q⟩ := want
  obtain ⟨u1, u2, rfl, r1, r2⟩ := vals2 r
  cases r1
  have e2 := kc.eq r2
  subst e2
  obtain ⟨oe, od, J⟩ := ea.inst I
  exact PySem.W.kia_one (PySem.W.kitx_exc D.cl D.ga D.gg D.sb D.ca D.cg D.ct D.co) I.kIn J e (fun z => nomatch z) fun tk => ⟨.bl b, H, I.tok tk, rfl, q⟩
end
section
variable {X : Cx} {x : Str} {C : Addr} {p pos : Pos}
/-- X(), an own class without own __init__ -/
theorem pe_exc0 {bmB : List Value} {B newId initId : String} (F : ExcBaseFacts B newId initId bmB) (q : PySem.W.excIn X.K C bmB newId = true) (gC : X.mg x = some (.ref C)) (kC : PySem.W.keepIn X.K (.ref C) = true) (hg : Gl X x)
    (hdb : (x == ("__debug__" : Str)) = false := by decide) : PE X (.Call (.Name x p) [] [] pos) (fun σ H Q => ∀ a, H a = none → Q (.ref a) (upd H a (ExO (.ref C) a))) := by
  refine ⟨fun pins s σ H Q I want => ?_⟩
  refine wpAny_Call_Name_kw (ld_glob I hg gC ?_ hdb)
  refine PySem.W.callWith_K0 I.kIn kC ?_
  obtain ⟨bm, N, nm, qn, bs, hdct, sn, sub, ab, col, dd, k0, k1, k2, k3, k5, mN, hC, hN, hni, T⟩ := exc_obj I.kIn q
  refine wpAny_call_exc_subT F T hC hN hni (fun h' a made => ?_) (by show 0 ≤ sizeLine; exact Nat.zero_le _)
  have free : H a = none := I.hok.gone made.new
  obtain ⟨t, ht, _, _⟩ := made.there
  exact ⟨.ref a, upd H a (ExO (.ref C) a), I.laidN made.keeps made.new free (exO_ok ht ⟨rfl, rfl⟩ rfl rfl rfl (show 4 < 6 by decide)), rfl, want a free⟩
theorem relO_fld {fld : Str} {v : V} {u : Value} (r : RelV v u) (f : Str) : RelO (List.lookup f [(fld, v)]) (if f = fld then some u else none) := by
  by_cases e : f = fld
  · subst e
    rw [if_pos rfl, List.lookup_cons_self]
    exact r
  · have z : (f == fld) = false := by simpa using e
    rw [if_neg e, List.lookup_cons, z]
    trivial
/-- X(e), an own class whose __init__ keeps e as a field -/
theorem pe_mkV {fld : Str} {a : Expr} {ta : TA} {k : Nat}
    (made : ∀ {s : Shared} {u : Value} {R : Result → Shared → Prop}, X.K.In s.heap → s.heap.NoLimit → X.A.depth + 1 < recursionLimit → (∀ h' tk e d, OwnMade fld s.heap h' e C d u → R (.ok (.ret (.ref e))) { s with heap := h', toks := tk }) →
      codeAny (model X.prog X.w) X.A (.call (.ref C) ⟨[u], []⟩) R s)
    (gC : X.mg x = some (.ref C)) (kC : PySem.W.keepIn X.K (.ref C) = true) (hr : Room k X.A) (hg : Gl X x) (ha : PA X [a] ta) (hdb : (x == ("__debug__" : Str)) = false := by decide)
    (he : starEach (a :: []) X.env = (false, eval a X.env) :: starEach [] X.env := by rfl) (hpl : (backTo pos (starEach [] X.env)).any (·.1) = false := by rfl) :
    PE X (.Call (.Name x p) [a] [] pos) (fun σ H Q => ta σ H fun vs H1 => ∃ v, vs = [v] ∧ ∀ d e, H1 d = none → H1 e = none → d ≠ e → Q (.ref e) (upd (upd H1 d (.xd [(fld, v)])) e (ExD (.ref C) e d))) := by
  refine ⟨fun pins s σ H Q I want => ?_⟩
  refine wpAny_Call_Name_kw (ld_glob I hg gC ?_ hdb)
  refine PySem.W.callWith_K (h₀ := X.base) I.ok.mod.kin kC (thn (ha.run pos pins s σ H _ I want) ?_) he hpl
  rintro us s1 ⟨vs, H1, I1, r1, v, rfl, q1⟩
  refine ⟨I1.kIn, ?_⟩
  obtain ⟨u, rfl, ru⟩ := vals1 r1
  show wpAny _ _ (call (.ref C) [u]) _ _ _
  have lim := I1.nolimit
  obtain ⟨hp, g, dr, tk, os⟩ := s1
  refine wpAny_call (made I1.kIn lim (by have := hr.dp; omega) ?_)
  intro h' tk' e d M
  obtain ⟨oe, fv, hoe, hc, hd, hdat⟩ := M.obj
  obtain ⟨G', g1, g2⟩ := restrict h' fun b => decide (b ≠ e)
  have same : ∀ b, b ≠ e → G'.get? b = h'.get? b := fun b hb => g1 b (decide_eq_true hb)
  have gone : G'.get? e = none := g2 e (by simp)
  have old : ∀ b o, hp.get? b = some o → G'.get? b = some o := fun b o z => (same b (Nat.ne_of_lt (Nat.lt_of_lt_of_le (Heap.lt_size z) M.new))).trans (M.keep b o z)
  have ob : ObjOk X.prog X.w (upd H1 d (.xd [(fld, v)])) G' d (.xd [(fld, v)]) := ⟨_, M.ns.at (fun o z => (same d M.dne).trans z), fun f => relO_fld ru f⟩
  have J : Inv X pins σ (upd H1 d (.xd [(fld, v)])) ⟨G', g, dr, tk', os⟩ := I1.laid (t' := tk') old M.dbig ob
  have fe : H1 e = none := I1.hok.fresh M.new
  have fd : H1 d = none := I1.hok.fresh M.dbig
  have fe2 : (upd H1 d (.xd [(fld, v)])) e = none := by rw [upd_ne (Ne.symm M.dne)]; exact fe
  have J2 : Inv X pins σ (upd (upd H1 d (.xd [(fld, v)])) e (ExD (.ref C) e d)) ⟨h', g, dr, tk', os⟩ := by
    refine J.laidN (h' := h') (t' := tk') (fun b o z => ?_) gone fe2 (exD_ok hoe ⟨hc, hd⟩ hdat)
    by_cases hb : b = e
    · have z' : G'.get? b = some o := z
      rw [hb, gone] at z'
      cases z'
    · exact (same b hb).symm.trans z
  exact ⟨.ref e, _, J2, rfl, q1 d e fd fe M.dne⟩
/-- e.f, e such an error -/
def tFldV (C : Addr) (fld : Str) (te : TE) : TE := fun σ H Q => te σ H fun y H1 => ∃ a d v, y = .ref a ∧ H1 a = some (ExD (.ref C) a d) ∧ H1 d = some (.xd [(fld, v)]) ∧ Q v H1
theorem pe_fldV {fld : Str} {e : Expr} {te : TE} (ga : PySem.W.findIn X.K (.ref C) "__getattribute__" = some (some (.builtin "BaseException.__getattribute__"))) (gg : PySem.W.findIn X.K (.ref C) "__getattr__" = some none)
    (exC : PySem.W.subIn X.K (.ref C) (.type "BaseException") = some true) (hdC : PySem.W.hasDictIn X.K C = true) (noN : PySem.W.findIn X.K (.ref C) fld = some none) (he : PE X e te) (hb : attributeBase e fld X.env (eval e X.env) = eval e X.env := by rfl) :
    PE X (.Attribute e fld pos) (tFldV C fld te) := by
  refine ⟨fun pins s σ H Q I want => ?_⟩
  refine attr_of hb (thn (he.run pins s σ H _ I want) ?_)
  rintro u s1 ⟨y, H1, I1, ry, a, d, v, rfl, ha, hd, q⟩
  cases ry
  obtain ⟨⟨oe, vs, ho, hz, hdt⟩, _, _⟩ := I1.hok a _ ha
  have ox : ObjOk X.prog X.w H1 s1.heap d (.xd [(fld, v)]) := I1.hok d _ hd
  obtain ⟨mA, hns, hr⟩ := ox
  obtain ⟨od, hod, hl⟩ := lookIn_ns hns
  have look : List.lookup fld [(fld, v)] = some v := List.lookup_cons_self
  obtain ⟨u, hu, ru⟩ := RelO.some_of (v := v) (o := mA fld) (by rw [← look]; exact hr fld)
  have J : PySem.W.InstAt s1.heap a oe C (some od) := ⟨ho, hz.1, by unfold PySem.W.notCls; rw [hdt] <;> rfl, by rw [hz.2]; exact hod⟩
  exact HandSPX.exc_get I1.kIn J ga gg exC (PySem.W.findObj_own hdC noN rfl (by rw [hl, hu])) (handed_of ru) ⟨v, H1, I1.tok _, ru, q⟩
end
end Gd
/-! a def held by a local name, called where what it raises is caught; isinstance of a caught error that has fields -/
namespace Gd
open PySem PySem.Spec PyProof.Rows L2
section
variable {X : Cx} {CX : CXT} {k i : Nat} {f : Addr} {fd : FuncData} {ps : List Str} {sp : Sp} {E : L2.St → XK} {x : Str} {p pos : Pos} {e : Expr} {es : List Expr} {t : TA}
def tCallLS (i : Nat) (f : Addr) (sp : Sp) (E : L2.St → XK) (t : TA) : TE := fun σ H Q => σ[i]? = some (some (.ref f)) ∧ t σ H fun vs H1 => sp vs H1 Q (E σ)
theorem pe_callLS (F : FnOk X.prog X.w X.K X.mg X.base CX k f fd ps sp) (hr : Room k X.A) (hN : X.N[i]? = some x) (hv : Vis X.env.scope x) (hk : PySem.W.keepIn X.K (.ref f) = true) (hb : Binds X.K fd ps []) (hx : ∀ σ, PassesAt CX X σ (E σ)) (ha : PA X (e :: es) t)
    (hdb : (x == ("__debug__" : Str)) = false := by decide) (hcd : (x == ("__classdict__" : Str)) = false := by decide)
    (he : starEach (e :: es) X.env = (false, eval e X.env) :: starEach es X.env := by rfl) (hpl : (backTo pos (starEach es X.env)).any (·.1) = false := by rfl) : PE X (.Call (.Name x p) (e :: es) [] pos) (tCallLS i f sp E t) := by
  refine ⟨?_⟩
  rintro pins s σ H Q I ⟨slot, want⟩
  have name := (pe_var (pos := p) hN hv hdb hcd).run pins s σ H (fun v G => v = .ref f ∧ G = H) I ⟨.ref f, slot, rfl, rfl⟩
  refine wpAny_Call_Name_kw (thn name ?_)
  rintro u s1 ⟨v, H1, I1, r1, rfl, rfl⟩
  cases r1
  refine PySem.W.callWith_K (h₀ := X.base) I.ok.mod.kin hk (thn (ha.run pos pins s1 σ _ _ I1 want) ?_) he hpl
  rintro us s2 ⟨vs, H2, I2, r2, q2⟩
  exact ⟨I2.kIn, run_fnS F hr hb (hx σ) I2 r2 q2⟩
end
/-- what isinstance asks of the class of an error -/
structure ExcD (K : PySem.W.Frag) (D : Addr) : Prop where
  cl : (PySem.W.clsIn K D).isSome = true
  ga : PySem.W.findIn K (.ref D) "__getattribute__" = some (some (.builtin "BaseException.__getattribute__"))
  gg : PySem.W.findIn K (.ref D) "__getattr__" = some none
  sb : PySem.W.subIn K (.ref D) (.type "BaseException") = some true
  ca : PySem.W.findIn K (.ref D) "__class__" = some (some (.builtin "object.__class__"))
  cg : PySem.W.specialIn K (.builtin "object.__class__") "__get__" = some (some (.builtin "getset_descriptor.__get__"))
  ct : PySem.W.takesIn K (.builtin "object.__class__") = some true
  co : PySem.W.mroIn K D (.type "object") = some true
section
variable {X : Cx} {a D : Addr} {oe : Obj} {d : Option Addr} {pn : List (Addr × Obj)}
theorem inst_of {pins : List (Addr × Obj)} {σ : L2.St} {H : Hp} {s : Shared} {dd : Addr} {fs : List (Str × V)} (I : Inv (X.suite a ((a, oe) :: pn)) pins σ H s) (hz : Zc (.ref D) d oe) (hf : ∃ vs, oe.data = .fields vs) (ed : d = some dd) (hx : H dd = some (.xd fs)) :
    ∃ od, PySem.W.InstAt s.heap a oe D (some od) := by
  obtain ⟨get, _⟩ := I.pin (a, oe) (List.mem_append_left _ List.mem_cons_self)
  obtain ⟨vs, hd⟩ := hf
  have ox : ObjOk X.prog X.w H s.heap dd (.xd fs) := I.hok dd _ hx
  obtain ⟨mA, hns, _⟩ := ox
  obtain ⟨od, ho, _⟩ := lookIn_ns hns
  subst ed
  exact ⟨od, get, hz.1, by unfold PySem.W.notCls; rw [hd] <;> rfl, by rw [hz.2]; exact ho⟩
def rIsX (K : PySem.W.Frag) (D a : Addr) (cls : Value) (d : Option Addr) : List V → Hp → VK → Prop := fun xs H Q => ∃ (c : V) (u : Value) (b : Bool) (dd : Addr) (fs : List (Str × V)), xs = [.ref a, c] ∧ cls = .ref D ∧ ClsV c u ∧ d = some dd ∧ H dd = some (.xd fs) ∧ PySem.W.kitOne K (.ref D) u = some b ∧ Q (.bl b) H
theorem call_isX {cls : Value} (C : ExcD X.K D) (hz : Zc cls d oe) (hf : ∃ vs, oe.data = .fields vs) : CallR (X.suite a ((a, oe) :: pn)) (.builtin "isinstance") (rIsX X.K D a cls d) := by
  intro pins s σ H xs us Q I r want
  obtain ⟨c, u, b, dd, fs, rfl, ec, kc, ed, hx, e, q⟩ := want
  subst ec
  obtain ⟨u1, u2, rfl, r1, r2⟩ := vals2 r
  cases r1
  have e2 := kc.eq r2
  subst e2
  obtain ⟨od, J⟩ := inst_of I hz hf ed hx
  exact PySem.W.kia_one (PySem.W.kitx_exc C.cl C.ga C.gg C.sb C.ca C.cg C.ct C.co) I.kIn J e (fun z => nomatch z) fun tk => ⟨.bl b, H, I.tok tk, rfl, q⟩
def rIsXT (K : PySem.W.Frag) (D a : Addr) (cls : Value) (d : Option Addr) : List V → Hp → VK → Prop := fun xs H Q => ∃ (tp : Addr) (cs : List V) (us : List Value) (b : Bool) (dd : Addr) (fs : List (Str × V)), xs = [.ref a, .ref tp] ∧ cls = .ref D ∧ H tp = some (.tup cs) ∧ Paired ClsV cs us ∧ d = some dd ∧ H dd = some (.xd fs) ∧
  PySem.W.kitAny K (.ref D) us = some b ∧ Q (.bl b) H
theorem call_isXT {cls : Value} (C : ExcD X.K D) (hz : Zc cls d oe) (hf : ∃ vs, oe.data = .fields vs) : CallR (X.suite a ((a, oe) :: pn)) (.builtin "isinstance") (rIsXT X.K D a cls d) := by
  intro pins s σ H xs us Q I r want
  obtain ⟨tp, cs, ws, b, dd, fs, rfl, ec, hT, kc, ed, hx, e, q⟩ := want
  subst ec
  obtain ⟨u1, u2, rfl, r1, r2⟩ := vals2 r
  cases r1
  cases r2
  obtain ⟨od, J⟩ := inst_of I hz hf ed hx
  obtain ⟨_, its, rv, o, h1, h2, n, h3⟩ := (show ObjOk X.prog X.w H s.heap tp (.tup cs) from I.hok tp _ hT)
  have e3 := ClsV.all kc rv
  subst e3
  obtain ⟨oc, od2, dt, sl⟩ := o
  simp only at h2 h3
  subst h2 h3
  exact PySem.W.kia_tup (PySem.W.kitx_exc C.cl C.ga C.gg C.sb C.ca C.cg C.ct C.co) I.kIn J h1 e (fun z => nomatch z) fun tk => ⟨.bl b, H, I.tok tk, rfl, q⟩
end
end Gd
/-! several except clauses that all name the error; a def with a star parameter called in such a try -/
namespace Gd
open PySem PySem.Spec PyProof.Rows L2
abbrev Su : Type := Addr → Value → Option Addr → TS
/-- behind a suite the clause's name is gone -/
def goneEnds (i : Nat) (D : Ends) : Ends := { nx := fun σ G => D.nx (σ.set i none) G, rt := D.rt, bk := fun σ G => D.bk (σ.set i none) G, ct := fun σ G => D.ct (σ.set i none) G }
def wCl (K : PySem.W.Frag) (i : Nat) (D : Ends) (W0 : WX) : List (Value × Su) → WX
  | [] => W0
  | q :: r => fun cls d σ G => ∃ b, PySem.W.exmOne K cls q.1 = some b ∧ (b = true → ∀ a, G a = none → q.2 a cls d (goneEnds i D) (σ.set i (some (.ref a))) G) ∧ (b = false → wCl K i D W0 r cls d σ G)
inductive Cls2 (X : Cx) (n : Str) : List ExceptHandler → List (Value × Su) → Prop
  | stop : Cls2 X n [] []
  | more {x : Str} {c : Value} {t : Su} {b : Stmt} {bs : List Stmt} {p q : Pos} {hs : List ExceptHandler} {l : List (Value × Su)} (nm : Names X x c)
      (su : ∀ (a : Addr) (o : Obj) (cls : Value) (d : Option Addr) (pn : List (Addr × Obj)), Zc cls d o → (∃ vs, o.data = .fields vs) → PSs (X.suite a ((a, o) :: pn)) (b :: bs) (t a cls d)) (r : Cls2 X n hs l) :
      Cls2 X n (.ExceptHandler (some (.Name x p)) (some n) (b :: bs) q :: hs) ((c, t) :: l)
section
variable {X : Cx} {body : List Stmt} {e0 : ExceptHandler} {es : List ExceptHandler} {l : List (Value × Su)} {pos : Pos} {tb : WX → TS} {W0 : WX} {n : Str} {i : Nat}
/-- an error that has landed in the def goes through the clauses -/
theorem clauses {pins : List (Addr × Obj)} {D : Ends} {a : Addr} {s' : Shared} {σ1 : L2.St} {H1 : Hp} {cls : Value} {d : Option Addr} {h3 : Heap}
    (hN : X.N.Nodup) (hi : X.N[i]? = some n) (hl : X.env.kindOf n = some .local)
    (land : ∀ {hs : List ExceptHandler} {x : Str} {c : Value} {t : Su} {b : Stmt} {bs : List Stmt} {p q : Pos} {y : Bool}, Names X x c → PySem.W.exmOne X.K cls c = some y →
      (∀ (o : Obj) (pn : List (Addr × Obj)), Zc cls d o → (∃ vs, o.data = .fields vs) → PSs (X.suite a ((a, o) :: pn)) (b :: bs) (t a cls d)) →
      (y = true → t a cls d (goneEnds i D) (σ1.set i (some (.ref a))) H1) → (y = false → wpAny (model X.prog X.w) X.A (handleBy (.ref a) X.env hs) (SP X pins D) X.xe { s' with heap := h3 }) →
      wpAny (model X.prog X.w) X.A (handleBy (.ref a) X.env (.ExceptHandler (some (.Name x p)) (some n) (b :: bs) q :: hs)) (SP X pins D) X.xe { s' with heap := h3 })
    (na : H1 a = none) (out : W0 cls d σ1 H1 → wpAny (model X.prog X.w) X.A (handleBy (.ref a) X.env []) (SP X pins D) X.xe { s' with heap := h3 })
    {hs : List ExceptHandler} {m : List (Value × Su)} (C : Cls2 X n hs m) : wCl X.K i D W0 m cls d σ1 H1 → wpAny (model X.prog X.w) X.A (handleBy (.ref a) X.env hs) (SP X pins D) X.xe { s' with heap := h3 } := by
  induction C with
  | stop => exact out
  | more nm su r ih =>
    rintro ⟨y, ey, yes, no⟩
    exact land nm ey (fun o pn z f => su a o cls d pn z f) (fun e => yes e a na) (fun e => ih (no e))
theorem ps_try_cl (hs : X.stack = X.env :: X.outer) (hf : X.env.frame = some X.env.locals) (hN : X.N.Nodup) (hi : X.N[i]? = some n) (hl : X.env.kindOf n = some .local) (tk : Takes X W0)
    (hb : ∀ (W : WX) (pn : List (Addr × Obj)) (xe : Value → Shared → Prop), Takes (X.tr pn xe) W → PassesOwn (model X.prog X.w) X.A X.env xe → PSs (X.tr pn xe) body (tb W)) (C : Cls2 X n (e0 :: es) l) :
    PS X (.Try body (e0 :: es) [] [] pos) (fun D σ H => tb (wCl X.K i D W0 l) D σ H) := by
  refine ⟨fun pins s σ H D I want => ?_⟩
  have iok := I.ok
  have frame : X.A.frames = some (X.env :: X.outer) := by rw [iok.frames, hs]
  refine wpAny_Try_except (wpAny_mono ((hb (wCl X.K i D W0 l) (X.pn ++ pins) _ ?took PassesOwn.looking).run [] s σ H D (I.toTry _) want) ?ends fun _ _ z => z)
  case ends =>
    intro f s1 sp
    cases f with
    | next => exact let ⟨σ1, H1, J, q⟩ := sp; wpAny_execs_nil ⟨σ1, H1, J.ofTry iok, q⟩
    | brk => exact let ⟨σ1, H1, J, q⟩ := sp; ⟨σ1, H1, J.ofTry iok, q⟩
    | cont => exact let ⟨σ1, H1, J, q⟩ := sp; ⟨σ1, H1, J.ofTry iok, q⟩
    | ret u => exact let ⟨v, σ1, H1, J, r, q⟩ := sp; ⟨v, σ1, H1, J.ofTry iok, r, q⟩
  case took =>
    rintro u s' ⟨a, B, sI, _, σ1, H1, cls, d, rfl, J0, nb, up, sky, na, os, ag, wish⟩
    have J := J0.ofTry iok
    have sky1 : Sky B (X.env :: X.outer) a (Zc cls d) X.env.locals s'.heap := hs ▸ sky
    refine Sky.land Zc.steady frame hf sky1 fun h3 fl up3 => ?_
    have J3 : Inv X pins σ1 H1 { s' with heap := h3 } := J.landed nb fl.1 (up.trans up3) os ag
    obtain ⟨o3, v3, g3, z3, d3⟩ := fl.there
    have far : a ∉ frs (X.env :: X.outer) := fun m => by
      obtain ⟨_, o, e, nf⟩ := fl.2.2.1.mem m
      cases g3.symm.trans e
      exact nf _ d3
    have far1 : a ≠ X.env.locals := fun z => far (List.mem_filterMap.mpr ⟨X.env, List.mem_cons_self, z ▸ hf⟩)
    have far2 : a ∉ X.fs := fun m => let ⟨e, he, q⟩ := List.mem_filterMap.mp m; far (List.mem_filterMap.mpr ⟨e, List.mem_cons_of_mem _ he, q⟩)
    refine clauses hN hi hl ?land na ?out C wish
    case out =>
      intro w0
      refine wpAny_handleBy_nil ?_
      obtain ⟨_, _, _, _, _, T, _, _, he, _, hd, h1, _⟩ := id fl
      unfold PySem.passOn
      refine wpAny_bind (wpAny_field he hd h1 ?_)
      rw [if_neg (show ¬ ((Value.ref T == Value.none) = true) from by simp)]
      have fin : wpAny (model X.prog X.w) X.A (setFlight (.ref a) X.env.frame) (fun _ t => wpAny (model X.prog X.w) X.A (throw (.ref a) : Sem Flow) (SP X pins D) X.xe t) X.xe { s' with heap := h3 } := by
        rw [hf]
        exact HandSPX.setFlight_upZ fl fun h4 k4 up4 => wpAny_throw (tk _ _ ⟨a, B, sI, pins, σ1, H1, cls, d, rfl, J, nb, (up.trans up3).trans up4, .inr (.inr (hs ▸ k4)), na, os, ag, w0⟩)
      first | exact wpAny_bind (wpAny_pure (wpAny_bind fin)) | exact wpAny_bind fin
    case land =>
      intro hs2 x c t b bs p q y nm ey su yes no
      refine wpAny_handleBy_cons (codeAny_handlers_test ?_) (fun z => by cases z)
      have S3 := J3.suite g3 d3 na far1 far2
      have kind : PySem.W.Looks (model X.prog X.w) h3 (typeOf (.ref a)) cls := fun A Q E r k z => wpAny_typeOf_ref (k _ _ g3) (by rw [z3.1]; exact z)
      have said := PySem.W.exm_one (M := model X.prog X.w) J3.kIn kind ey
      have name : ∀ {Q E : Value → Shared → Prop}, Q c { s' with heap := h3 } → wpAny (model X.prog X.w) (X.A.mark (some (.ref a))) (eval (.Name x p) X.env) Q E { s' with heap := h3 } := fun {Q E} z => by
        obtain ⟨g, db, m | ⟨m, v, nn⟩⟩ := nm
        · exact ld_glob (X := X.suite a ((a, o3) :: (X.pn ++ pins))) S3 g m z db
        · exact ld_blt (X := X.suite a ((a, o3) :: (X.pn ++ pins))) S3 g m v z nn db
      refine name (said.here ?_)
      cases y with
      | false => exact no rfl
      | true =>
        refine codeAny_handlers_suite_as (HandSPX.lands_againZ fl fun h4 fl4 up4 => ?_)
        have J4 : Inv X pins σ1 H1 { s' with heap := h4 } := J.landed nb fl4.1 ((up.trans up3).trans up4) os ag
        obtain ⟨o4, v4, g4, z4, d4⟩ := fl4.there
        refine store_ok (X := X.suite a ((a, o4) :: (X.pn ++ pins))) (v := .ref a) (J4.suite g4 d4 na far1 far2) hN hi (.inl hl) rfl (fun s5 S5 => ?_) (.inr hl)
        refine wpAny_mono ((su o4 (X.pn ++ pins) z4 ⟨_, d4⟩).run [] s5 _ H1 _ S5 (yes rfl)) (fun f s6 sp => ?_) fun _ _ z => z.elim
        have off : ∀ {σ6 : L2.St} {H6 : Hp} {R : Shared → Prop}, Inv (X.suite a ((a, o4) :: (X.pn ++ pins))) [] σ6 H6 s6 → (∀ s7, Inv X pins (σ6.set i none) H6 s7 → R s7) →
            wpAny (model X.prog X.w) X.A (do bindName X.env n .none; unbindBehindTheSuite X.env n q) (fun _ s7 => R s7) X.xe s6 := fun S6 hR => gone_ok (S6.unsuite iok) hN hi hl hR
        cases f with
        | next => exact let ⟨_, _, S6, q6⟩ := sp; off S6 fun _ J7 => ⟨_, _, J7, q6⟩
        | brk => exact let ⟨_, _, S6, q6⟩ := sp; off S6 fun _ J7 => ⟨_, _, J7, q6⟩
        | cont => exact let ⟨_, _, S6, q6⟩ := sp; off S6 fun _ J7 => ⟨_, _, J7, q6⟩
        | ret u => exact let ⟨_, _, _, S6, r6, q6⟩ := sp; off S6 fun _ J7 => ⟨_, _, _, J7, r6, q6⟩
end
/-! ### the call -/
section
variable {X : Cx} {CX : CXT} {k : Nat} {f : Addr} {sp : Sp} {E : L2.St → XK} {x : Str} {p pos : Pos} {e : Expr} {es : List Expr} {t : TA}
theorem run_RS {pins : List (Addr × Obj)} {σ : L2.St} {H : Hp} {s : Shared} {Q : VK} {us : List Value} {vs : List V} (F : FnR X.prog X.w X.K X.mg X.base CX k f sp) (hr : Room k X.A) (hx : PassesAt CX X σ (E σ)) (I : Inv X pins σ H s) (r : Vals vs us) (want : sp vs H Q (E σ)) :
    wpAny (model X.prog X.w) X.A (call (.ref f) us) (EP X pins σ Q) X.xe s := by
  refine wpAny_call (codeAny_mono (F X.A X.stack s H us vs Q (E σ) hr I.env0 r want) ?_)
  intro r s' h
  cases r with
  | error e => exact hx pins H s e s' I h
  | ok fl => cases fl with
    | ret u => exact I.after h
    | _ => exact False.elim h
def tCallRS (sp : Sp) (E : L2.St → XK) (t : TA) : TE := fun σ H Q => t σ H fun vs H1 => sp vs H1 Q (E σ)
def tCallRS0 (sp : Sp) (E : L2.St → XK) : TE := fun σ H Q => sp [] H Q (E σ)
theorem pe_callRS (F : FnR X.prog X.w X.K X.mg X.base CX k f sp) (hr : Room k X.A) (hg : Gl X x) (hm : X.mg x = some (.ref f)) (hk : PySem.W.keepIn X.K (.ref f) = true) (hx : ∀ σ, PassesAt CX X σ (E σ)) (ha : PA X (e :: es) t)
    (hdb : (x == ("__debug__" : Str)) = false := by decide) (he : starEach (e :: es) X.env = (false, eval e X.env) :: starEach es X.env := by rfl) (hpl : (backTo pos (starEach es X.env)).any (·.1) = false := by rfl) :
    PE X (.Call (.Name x p) (e :: es) [] pos) (tCallRS sp E t) := by
  refine ⟨fun pins s σ H Q I want => ?_⟩
  refine wpAny_Call_Name_kw (ld_glob I hg hm ?_ hdb)
  refine PySem.W.callWith_K (h₀ := X.base) I.ok.mod.kin hk (thn (ha.run pos pins s σ H _ I want) ?_) he hpl
  rintro us s1 ⟨vs, H1, I1, r, q⟩
  exact ⟨I1.kIn, run_RS F hr (hx σ) I1 r q⟩
theorem pe_callRS0 (F : FnR X.prog X.w X.K X.mg X.base CX k f sp) (hr : Room k X.A) (hg : Gl X x) (hm : X.mg x = some (.ref f)) (hk : PySem.W.keepIn X.K (.ref f) = true) (hx : ∀ σ, PassesAt CX X σ (E σ)) (hdb : (x == ("__debug__" : Str)) = false := by decide) :
    PE X (.Call (.Name x p) [] [] pos) (tCallRS0 sp E) := by
  refine ⟨fun pins s σ H Q I want => ?_⟩
  refine wpAny_Call_Name_kw (ld_glob I hg hm ?_ hdb)
  exact PySem.W.callWith_K0 I.kIn hk (run_RS F hr (hx σ) I .nil want)
end
/-! ### raise X(); isinstance of the error that a suite holds, with an own dict or without -/
section
variable {X : Cx} {C : Addr} {x : Str} {p pos : Pos}
theorem pmk0 {bmB : List Value} {B newId initId : String} (F : ExcBaseFacts B newId initId bmB) (q : PySem.W.excIn X.K C bmB newId = true) (gC : X.mg x = some (.ref C)) (kC : PySem.W.keepIn X.K (.ref C) = true) (r : Raises X (.ref C)) (hg : Gl X x)
    (hdb : (x == ("__debug__" : Str)) = false := by decide) : PMk X (.Call (.Name x p) [] [] pos) (fun _ H Q => Q (.ref C) none H) := by
  intro pins s σ H Q I want
  refine wpAny_Call_Name_kw (ld_glob I hg gC ?_ hdb)
  refine PySem.W.callWith_K0 I.kIn kC ?_
  obtain ⟨bm, N, nm, qn, bs, hdct, sn, sub, ab, col, dd, k0, k1, k2, k3, k5, mN, hC, hN, hni, T⟩ := exc_obj I.kIn q
  refine wpAny_call_exc_subT F T hC hN hni (fun h' a made => ?_) (by show 0 ≤ sizeLine; exact Nat.zero_le _)
  exact mk_of I made r want (I.hok.gone made.new)
end
section
variable {X : Cx} {a D : Addr} {oe : Obj} {d : Option Addr} {pn : List (Addr × Obj)}
def DOk (H : Hp) (d : Option Addr) : Prop := d = none ∨ ∃ dd fs, d = some dd ∧ H dd = some (.xd fs)
theorem inst_ofZ {pins : List (Addr × Obj)} {σ : L2.St} {H : Hp} {s : Shared} (I : Inv (X.suite a ((a, oe) :: pn)) pins σ H s) (hz : Zc (.ref D) d oe) (hf : ∃ vs, oe.data = .fields vs) (k : DOk H d) : ∃ od, PySem.W.InstAt s.heap a oe D od := by
  rcases k with rfl | ⟨dd, fs, rfl, hx⟩
  · obtain ⟨get, _⟩ := I.pin (a, oe) (List.mem_append_left _ List.mem_cons_self)
    obtain ⟨vs, hd⟩ := hf
    exact ⟨none, get, hz.1, by unfold PySem.W.notCls; rw [hd] <;> rfl, by rw [hz.2]; trivial⟩
  · obtain ⟨od, J⟩ := inst_of I hz hf rfl hx
    exact ⟨_, J⟩
def rIsZ (K : PySem.W.Frag) (D a : Addr) (cls : Value) (d : Option Addr) : List V → Hp → VK → Prop := fun xs H Q => ∃ (c : V) (u : Value) (b : Bool), xs = [.ref a, c] ∧ cls = .ref D ∧ ClsV c u ∧ DOk H d ∧ PySem.W.kitOne K (.ref D) u = some b ∧ Q (.bl b) H
theorem call_isZ {cls : Value} (C : ExcD X.K D) (hz : Zc cls d oe) (hf : ∃ vs, oe.data = .fields vs) : CallR (X.suite a ((a, oe) :: pn)) (.builtin "isinstance") (rIsZ X.K D a cls d) := by
  intro pins s σ H xs us Q I r want
  obtain ⟨c, u, b, rfl, ec, kc, kd, e, q⟩ := want
  subst ec
  obtain ⟨u1, u2, rfl, r1, r2⟩ := vals2 r
  cases r1
  have e2 := kc.eq r2
  subst e2
  obtain ⟨od, J⟩ := inst_ofZ I hz hf kd
  exact PySem.W.kia_one (PySem.W.kitx_exc C.cl C.ga C.gg C.sb C.ca C.cg C.ct C.co) I.kIn J e (fun z => nomatch z) fun tk => ⟨.bl b, H, I.tok tk, rfl, q⟩
def rIsZT (K : PySem.W.Frag) (D a : Addr) (cls : Value) (d : Option Addr) : List V → Hp → VK → Prop := fun xs H Q => ∃ (tp : Addr) (cs : List V) (us : List Value) (b : Bool), xs = [.ref a, .ref tp] ∧ cls = .ref D ∧ H tp = some (.tup cs) ∧ Paired ClsV cs us ∧ DOk H d ∧
  PySem.W.kitAny K (.ref D) us = some b ∧ Q (.bl b) H
theorem call_isZT {cls : Value} (C : ExcD X.K D) (hz : Zc cls d oe) (hf : ∃ vs, oe.data = .fields vs) : CallR (X.suite a ((a, oe) :: pn)) (.builtin "isinstance") (rIsZT X.K D a cls d) := by
  intro pins s σ H xs us Q I r want
  obtain ⟨tp, cs, ws, b, rfl, ec, hT, kc, kd, e, q⟩ := want
  subst ec
  obtain ⟨u1, u2, rfl, r1, r2⟩ := vals2 r
  cases r1
  cases r2
  obtain ⟨od, J⟩ := inst_ofZ I hz hf kd
  obtain ⟨_, its, rv, o, h1, h2, n, h3⟩ := (show ObjOk X.prog X.w H s.heap tp (.tup cs) from I.hok tp _ hT)
  have e3 := ClsV.all kc rv
  subst e3
  obtain ⟨oc, od2, dt, sl⟩ := o
  simp only at h2 h3
  subst h2 h3
  exact PySem.W.kia_tup (PySem.W.kitx_exc C.cl C.ga C.gg C.sb C.ca C.cg C.ct C.co) I.kIn J h1 e (fun z => nomatch z) fun tk => ⟨.bl b, H, I.tok tk, rfl, q⟩
end
end Gd
/-! A def that gives back a new list of numbers; its call may borrow a list of one's own. -/
namespace Dl
open PySem PySem.Spec PyProof.Rows L2 Gd
def spDN (C : Con) (m : Nat) : Sp := fun vs H Q _ => vs.length = m ∧ ∃ (F : Fr) (B : Addr → Prop) (as : List Ar) (n : Nat) (Qd : List Int → Nat → Prop), (∀ x, F.S x → B x) ∧ Hb B H ∧ Paired (ArR B H) vs as ∧ F.I n H ∧
  (∀ ns n a H', Kp F.S H H' → F.I n H' → H a = none → H' a = some (.lst (ns.map V.int)) → Qd ns n → Q (.ref a) H') ∧ C F as n (fun d n => ∃ ns, d = lstI ns ∧ Qd ns n)
abbrev TSn := (List Int → Nat → Prop) → En → Prop
def lowN (G : Gx) (t : TSn) : TS := fun D σ H => ∃ (O : Addr → Prop) (E : En) (R : List Int → Nat → Prop), Rel G O σ H E ∧ (∀ ns n a H', Kp G.F.S G.Hs H' → G.F.I n H' → G.Hs a = none → H' a = some (.lst (ns.map V.int)) → R ns n → D.rt (.ref a) H') ∧ t R E
section
variable {X : Cx} {G : Gx}
theorem zn_cons {s : Stmt} {rest : List Stmt} {t1 : TSd} {t2 : TSn} (h1 : PZ X G s t1) (h2 : PSs X rest (lowN G t2)) : PSs X (s :: rest) (lowN G fun R E => t1 { nx := fun E' => t2 R E', rt := fun _ _ => False } E) :=
  PSs.wk (pss_cons h1 h2) fun D σ H ⟨O, E, R, r, k, z⟩ => ⟨O, E, { nx := fun E' => t2 R E', rt := fun _ _ => False }, r, ⟨fun O' σ' H' E' _ r' q => ⟨O', E', R, r', k, q⟩, fun _ _ _ _ _ _ _ q => False.elim q, fun _ _ _ _ _ _ q => False.elim q, fun _ _ _ _ _ _ q => False.elim q⟩, z⟩
theorem zn_ret {i : Nat} {x : Str} {p pos : Pos} (h : PE X (.Name x p) (tVar i)) : PSs X [.Return (some (.Name x p)) pos] (lowN G fun R E => ∃ ns : List Int, E.ρ[i]? = some (.own (ns.map dI)) ∧ R ns E.n) :=
  PSs.wk (pss_one (ps_ret h)) fun D σ H ⟨O, E, R, r, k, ns, e, q⟩ => by
    obtain ⟨a, vs, y1, y2, y3, y4, y5⟩ := r.own i _ e
    have ev : vs = ns.map V.int := ints_dv y5 (intsOf_map ns)
    subst ev
    exact ⟨.ref a, y1, k ns E.n a H r.kp r.str y4 y2 q⟩
theorem ints_D {O : Addr → Prop} {H : Hp} : ∀ ns : List Int, DvL O H (ns.map V.int) (ns.map dI)
  | [] => .nil
  | n :: ns => .cons (.int n) (ints_D ns)
/-- f(xs, e), xs a list of one's own -/
def dCallN (F : Fr) (C : Con) (i : Nat) (t2 : TD) : TD := fun E Q => match E.ρ[i]? with | some (.own ds) => t2 E fun d n => C F [.d (.list ds), .d d] n (fun d n => ∃ ns, d = lstI ns ∧ Q (lstI ns) n) | _ => False
theorem pl_callN {k i : Nat} {f : Addr} {fd : FuncData} {ps : List Str} {C : Con} {x y : Str} {p p1 pos : Pos} {e2 : Expr} {t2 : TD} (F : FnOk X.prog X.w X.K X.mg X.base CX0 k f fd ps (spDN C 2)) (hr : Room k X.A) (hm : X.mg x = some (.ref f)) (hk : PySem.W.keepIn X.K (.ref f) = true) (hb : Binds X.K fd ps [])
    (hx : PE X (.Name y p1) (tVar i)) (h2 : PD X G e2 t2) (hg : Gl X x := by rfl) (hdb : (x == ("__debug__" : Str)) = false := by decide) (he : starEach [.Name y p1, e2] X.env = (false, eval (.Name y p1) X.env) :: starEach [e2] X.env := by rfl) (he2 : starEach [e2] X.env = (false, eval e2 X.env) :: starEach [] X.env := by rfl) (hpl : (backTo pos (starEach [e2] X.env)).any (·.1) = false := by rfl) :
    PL X G (.Call (.Name x p) [.Name y p1, e2] [] pos) (dCallN G.F C i t2) := PE.wk (pe_call F hr hg hm hk hb .nil pass0 (pa_cons hx (pa_cons h2 pa_nil he2) he) hdb he hpl) fun σ H Q ⟨O, E, Qd, r, im, z⟩ => by
  unfold dCallN at z
  split at z
  · rename_i ds eo
    obtain ⟨a, vs, y1, y2, y3, y4, y5⟩ := r.own i ds eo
    refine ⟨.ref a, y1, O, E, _, r, ?_, z⟩
    rintro d n v2 H1 k1 i1 dv q1
    have r1 := r.step k1 i1
    have nS : ¬ G.F.S a := fun w => G.hb a (G.sb a w) y4
    have y2' : H1 a = some (.lst vs) := k1 a _ y2 nS
    have y5' := y5.later (r.lt k1)
    refine ⟨rfl, G.F, (fun x => O x ∧ x ≠ a), [.d (.list ds), .d d], n, fun ns n => Qd (lstI ns) n, fun x w => ⟨r.bo x (G.sb x w), fun e => nS (e ▸ w)⟩, r1.aB.sub fun x w => w.1, ?_, i1, ?_, q1⟩
    · exact .cons (Dv.mkL y2' (fun w => w.2 rfl) (y5'.mp fun _ _ z => Dv.less' (fun _ w => w.1) z)) (.cons (Dv.less' (fun _ w => w.1) dv) .nil)
    · intro ns n' r' H' k2 i2 hn hl q2
      refine im _ n' (.ref r') H' (k1.trans k2) i2 ⟨r', ns.map V.int, ns.map dI, rfl, rfl, ?_, hl, ints_D ns⟩ q2
      cases e0 : H r' with
      | none => rfl
      | some u =>
        by_cases w : G.F.S r'
        · exact absurd hn (G.F.al n H1 r' i1 w)
        · exact (Stay.ne (k1 r' u e0 w) hn).elim
  · exact z.elim
/-- a call that might raise and does not -/
theorem pd_callX0 {k m : Nat} {f : Addr} {fd : FuncData} {ps : List Str} {C : ConX} {x : Str} {p pos : Pos} {e : Expr} {es : List Expr} {ts : TDa} (F : FnOk X.prog X.w X.K X.mg X.base (L2.CX X.prog X.w) k f fd ps (spDX C m)) (hr : Room k X.A) (hm : X.mg x = some (.ref f)) (hk : PySem.W.keepIn X.K (.ref f) = true) (hb : Binds X.K fd ps [])
    (ha : PR X G (e :: es) ts) (hg : Gl X x := by rfl) (hdb : (x == ("__debug__" : Str)) = false := by decide) (he : starEach (e :: es) X.env = (false, eval e X.env) :: starEach es X.env := by rfl) (hpl : (backTo pos (starEach es X.env)).any (·.1) = false := by rfl) :
    PD X G (.Call (.Name x p) (e :: es) [] pos) (dCall G.F (fun F as n Q => C F as n Q (fun _ _ _ => False)) m ts) := PE.wk (pe_callS F hr hg hm hk hb (fun σ => passAt takes0 σ) ha hdb he hpl) fun σ H Q ⟨O, E, Qd, r, im, z⟩ => by
  refine ⟨O, E, _, r, ?_, z⟩
  rintro as n vs H1 k1 i1 rv ⟨q0, q1⟩
  have r1 := r.step k1 i1
  exact ⟨rv.length.trans q0, G.F, O, as, n, _, _, r.sO, r1.aB, rv, i1, fun d n' v H' k2 i2 dv q2 => im d n' v H' (k1.trans k2) i2 dv q2, fun _ _ _ _ _ _ _ _ q => False.elim q, q1⟩
end
section
variable {P : Program} {w : World} {K : PySem.W.Frag} {mg : Str → Option Value} {base : Heap}
theorem okDN {x qual : Str} {st : Stmt} {f : Addr} {fd : FuncData} {N ps : List Str} {k : Nat} {C : Con} {t : Gx → TSn} (F : Fun K x qual st f fd) (S : FnScope N ps (defScope st))
    (der : ∀ (G : Gx) (cdv : Value) (A : Around) (fr : List Env) (s : Shared) (H : Hp) (E : XK), Room k (A.deeper (envOfC qual (defScope st) s.heap.objs.size f cdv)) → PSs (cxOf CX0 P w K mg base N qual (defScope st) f cdv A fr s H E).nox (defBody st) (lowN G (t G)))
    (sem : ∀ (G : Gx) (as : List Ar) (n : Nat) (R : List Int → Nat → Prop), as.length = ps.length → C G.F as n (fun d n => ∃ ns, d = lstI ns ∧ R ns n) → t G R ⟨as.map Ar.sl ++ List.replicate (N.length - ps.length) Sl.no, n⟩) :
    FnOk P w K mg base CX0 (k + 1) f fd ps (spDN C ps.length) := by
  refine F.ok S (fun vs H Q E h => h.1) (fun cdv A fr s H vs Q E hr h => ?_)
  obtain ⟨hl, F', B, as, n, Qd, sb, hb, hv, i, im, c⟩ := h
  refine ⟨_, der ⟨F', B, H, sb, hb⟩ cdv A fr s H E hr, B, _, Qd, rel_start (G := ⟨F', B, H, sb, hb⟩) hv rfl i, ?_, by have := sem ⟨F', B, H, sb, hb⟩ as n Qd (hv.length.symm.trans hl) c; rw [← hl] at this; exact this⟩
  exact fun ns n a H' k i h1 h2 q => im ns n a H' k i h1 h2 q
/-- a def of this kind is a def over data -/
theorem spDN_D {C : Con} {m : Nat} (hC : ∀ F as n (Q : PyData → Nat → Prop), C F as n Q → C F as n (fun d n => ∃ ns, d = lstI ns ∧ Q (lstI ns) n)) : ∀ vs H Q E, spD C m vs H Q E → spDN C m vs H Q E := by
  intro vs H Q E ⟨hl, F, B, as, n, Qd, sb, hb, hv, i, im, c⟩
  refine ⟨hl, F, B, as, n, fun ns n => Qd (lstI ns) n, sb, hb, hv, i, fun ns n' a H' k2 i2 hn hl' q => im _ n' _ H' k2 i2 (Dv.mkL hl' (fun y => hb.h a y hn) (ints_D ns)) q, hC F as n Qd c⟩
structure CdN (P : Program) (w : World) (K : PySem.W.Frag) (mg : Str → Option Value) (base : Heap) (k : Nat) (x : Str) (f : Addr) (fd : FuncData) (ps : List Str) (C : Con) : Prop where
  G : FnOk P w K mg base CX0 k f fd ps (spDN C ps.length)
  kp : PySem.W.keepIn K (.ref f) = true
  b : Binds K fd ps []
  g : mg x = some (.ref f)
theorem CdN.mono {j k : Nat} {x : Str} {f : Addr} {fd : FuncData} {ps : List Str} {C : Con} (c : CdN P w K mg base j x f fd ps C) (h : j ≤ k) : CdN P w K mg base k x f fd ps C := ⟨c.G.mono h, c.kp, c.b, c.g⟩
end
end Dl
namespace Lw
open PySem PySem.Spec PyProof.Rows L2 Gd Dl Sh
local macro_rules | `(tactic| walk_at "go") => `(tactic| repeat (refine opt_of rfl ?_))
local macro_rules | `(tactic| walk_at "en") => `(tactic| dsimp only [dBor, dVar, setsD, List.set_cons_zero, List.set_cons_succ, List.getElem?_cons_zero, List.getElem?_cons_succ])
theorem ix_lstD {ds : List PyData} {i : Nat} {x : Int} (e : x = (i : Nat)) (h : i < ds.length) : gIx (.list ds) (.int x) = some (ds.getD i .none) := by
  subst e
  show atI ds (i : Int) = _
  unfold atI
  rw [ixN_nat rfl h]
  show ds[i]? = _
  rw [List.getD_eq_getElem?_getD, List.getElem?_eq_getElem h]
  rfl
theorem lstI_inj {a b : List Int} (h : lstI a = lstI b) : a = b := by
  have h1 : a.map dI = b.map dI := PyData.list.inj h
  have h2 := intsOf_map a
  rw [h1, intsOf_map] at h2
  exact (Option.some.inj h2).symm
def C_distances_atN : Con := fun _ as n Q => ∃ (ds : List PyData) (p : Nat), as = [.d (.list ds), .d (.int p)] ∧ p ≤ ds.length ∧ p ≤ 60 ∧ (∀ j, j < p → okB ds j = true) ∧ Q (lstI (dsL ds p)) n
section
variable {P : Program} {w : World} {K : PySem.W.Frag} {mg : Str → Option Value} {base : Heap}
theorem ok_distances_atN {f : Addr} {fd : FuncData} {k : Nat}  (F : Fun K "distances_at" "distances_at" s_distances_at f fd)  : FnOk P w K mg base CX0 (k + 1) f fd ["shape", "place"] (spDN C_distances_atN 2) := by
  refine okDN F sc_distances_at (fun G cdv A fr s H E hr =>
        (zn_cons (z_own (i := 2) sc_distances_at.nd rfl (by first | exact .inl rfl | exact .inr rfl) (pl_lst (pr_cons pd_int pr_nil)))
        (zn_cons (z_if (pq_cmp op_gt l_gt (pb_var (pv 1)) (PB.of pd_int) (nomark _))
          (zs_cons (z_set (i := 3) sc_distances_at.nd rfl (by first | exact .inl rfl | exact .inr rfl) pd_int)
          (zs_cons (z_app (pv 2) (pd_var (pv 3)))
          (zs_one (z_while PassesOwn.never (pq_cmp op_gt l_gt (PB.of (pd_ix (pb_var (pv 0)) (PB.of (pd_sub (pb_var (pv 1)) (pb_var (pv 3)))) (fun _ _ => rfl))) (PB.of pd_int) (nomark _))
            (zs_cons (z_aug (i := 3) sc_distances_at.nd rfl (by first | exact .inl rfl | exact .inr rfl) (pd_ix (pb_var (pv 0)) (PB.of (pd_sub (pb_var (pv 1)) (pb_var (pv 3)))) (fun _ _ => rfl)) ip_add)
            (zs_one (z_app (pv 2) (pd_var (pv 3)))))))))
          zs_nil)
        (zn_ret (pv 2))))) (fun G as n R hl hc => ?_)
  obtain ⟨ds, p, rfl, hp, h60, hok, q⟩ := hc
  walk_at "go"; refine And.intro (rfl) ?_
  walk_at "go"; try dsimp only [List.set_cons_zero, List.set_cons_succ]
  by_cases p0 : 0 < p
  · rw [decide_eq_true (by omega : (0 : Int) < (p : Nat))]
    walk_at "go"
    refine ⟨by decide, ?_⟩
    walk_at "go"
    refine ⟨fun m E => ∃ (f : Nat) (done : List Nat), m ≤ f ∧ m < p ∧ chn (ev ds) p (p - 1) = done ++ chn (ev ds) f m ∧ E = ⟨[.dat (.list ds), .dat (.int p), .own ((0 :: (done ++ [m]).map fun q : Nat => (p : Int) - (q : Nat)).map dI), .dat (.int ((p : Int) - (m : Nat)))], n⟩, ⟨p - 1, p, [], by omega, by omega, rfl, ?_⟩, ?_⟩
    · show _ = (⟨[.dat (.list ds), .dat (.int p), .own [.int 0, .int ((p : Int) - ((p - 1 : Nat) : Int))], .dat (.int ((p : Int) - ((p - 1 : Nat) : Int)))], n⟩ : En)
      rw [show (p : Int) - ((p - 1 : Nat) : Int) = 1 by omega]
      rfl
    rintro t E ⟨f, done, tf, ht, hd, rfl⟩
    have et : ((p : Nat) : Int) - ((p : Int) - (t : Nat)) = (t : Nat) := by omega
    obtain ⟨l1, l2, l3, l4⟩ := okB_el (hok t ht)
    walk_at "go"; refine opt_of (ix_lstD (ds := ds) (i := t) et (by omega)) ?_
    rw [l2]
    walk_at "go"; try dsimp only [List.set_cons_zero, List.set_cons_succ]
    by_cases z : 0 < ev ds t
    · rw [decide_eq_true z]
      walk_at "go"; refine opt_of (ix_lstD (ds := ds) (i := t) et (by omega)) ?_
      rw [l2]
      walk_at "go"
      obtain ⟨f, rfl⟩ : ∃ g, f = g + 1 := ⟨f - 1, by omega⟩
      rw [chn, if_pos z] at hd
      have ln : done.length < 100 := by
        have := chn_len (e := ev ds) (f := p) (s := p - 1)
        rw [hd] at this
        simp at this
        omega
      refine ⟨by simp; omega, t - (ev ds t).toNat, by omega, f, done ++ [t], by omega, by omega, by rw [hd]; simp, ?_⟩
      have e1 : ((p : Int) - (t : Nat)) + ev ds t = (p : Int) - ((t - (ev ds t).toNat : Nat) : Int) := by omega
      dsimp only [List.set_cons_zero, List.set_cons_succ]
      rw [e1]
      simp [List.map_append]
    · rw [decide_eq_false z]
      rw [chn_stop z] at hd
      walk_at "go"
      unfold dsL at q
      rw [if_pos p0, hd] at q
      obtain ⟨ns, en, q⟩ := q
      have en := lstI_inj en
      subst en
      walk_at "go"; exact ⟨_, rfl, q⟩
  · rw [decide_eq_false (by omega : ¬ (0 : Int) < (p : Nat))]
    unfold dsL at q
    rw [if_neg p0] at q
    obtain ⟨ns, en, q⟩ := q
    have en := lstI_inj en
    subst en
    walk_at "go"; exact ⟨[0], rfl, q⟩
end
end Lw
namespace Lw
open PySem PySem.Spec PyProof.Rows L2 Gd Dl Sh
local macro_rules | `(tactic| walk_at "go") => `(tactic| repeat (refine opt_of rfl ?_))
local macro_rules | `(tactic| walk_at "en") => `(tactic| dsimp only [dBor, dVar, setsD, List.set_cons_zero, List.set_cons_succ, List.getElem?_cons_zero, List.getElem?_cons_succ])
def stepC (cs : List Int) (len : Nat) : Nat → Nat → Int → Option (Nat × Int)
  | 0, _, _ => none
  | f + 1, c, r => if c < len ∧ rsa len c < cs.length then (if en cs (rsa len c) ≤ r then stepC cs len f (c + 1) (r - en cs (rsa len c)) else some (c, r)) else none
def satGo (n : Nat) : Nat → List Int → Int → Option (List Int)
  | 0, ns, _ => some ns
  | k + 1, ns, r => if (List.range (n - (k + 1))).all (okB (ns.map dI)) = true then (match stepC (rowAt n (n - 1 - (n - (k + 1)))) (dsL (ns.map dI) (n - (k + 1))).length 70 0 r with | some (c, r') => satGo n k (ns ++ [en (dsL (ns.map dI) (n - (k + 1))) c]) r' | none => none) else none
def sidxD (ds : List PyData) : Int := ((List.range ds.length).map fun i => ((List.range ((dsL ds i).idxOf (ev ds i))).map fun j => en (rowAt ds.length (ds.length - 1 - i)) (rsa (dsL ds i).length j)).sum).sum
theorem chn_fuel {e : Nat → Int} : ∀ (f g s : Nat), s ≤ f → s ≤ g → (∀ u, u ≤ s → e u ≤ u) → chn e f s = chn e g s
  | 0, g, s, hf, hg, h => by
    obtain rfl : s = 0 := by omega
    have := h 0 (Nat.le_refl _)
    rw [chn_stop (by omega), chn_stop (by omega)]
  | f + 1, 0, s, hf, hg, h => by
    obtain rfl : s = 0 := by omega
    have := h 0 (Nat.le_refl _)
    rw [chn_stop (by omega), chn_stop (by omega)]
  | f + 1, g + 1, s, hf, hg, h => by
    rw [chn, chn]
    by_cases z : 0 < e s
    · have := h s (Nat.le_refl _)
      rw [if_pos z, if_pos z, chn_fuel f g (s - (e s).toNat) (by omega) (by omega) (fun u hu => h u (by omega))]
    · rw [if_neg z, if_neg z]
theorem chn_cut {e : Nat → Int} (g t : Nat) (hg : t ≤ g) : ∀ (f s : Nat), s ≤ f → (∀ u, u ≤ s → e u ≤ u) → t ∈ chn e f s → (chn e f s).filter (fun x => decide (x ≤ t)) = chn e g t := by
  intro f
  induction f with
  | zero =>
    intro s hs h ht
    obtain rfl : s = 0 := by omega
    rw [chn, List.mem_singleton] at ht
    subst ht
    have := h 0 (Nat.le_refl _)
    rw [chn_stop (by omega), chn_stop (by omega)]
    rfl
  | succ f ih =>
    intro s hs h ht
    by_cases e0 : t = s
    · subst e0
      rw [List.filter_eq_self.mpr (fun x hx => decide_eq_true (chn_le hx))]
      exact chn_fuel _ _ _ hs hg h
    · have hl := chn_le ht
      rw [chn] at ht ⊢
      rw [List.filter_cons_of_neg (by simp; omega)]
      rcases List.mem_cons.mp ht with y | ht
      · exact absurd y e0
      by_cases z : 0 < e s
      · have := h s (Nat.le_refl _)
        rw [if_pos z] at ht ⊢
        exact ih (s - (e s).toNat) (by omega) (fun u hu => h u (by omega)) ht
      · rw [if_neg z] at ht
        cases ht
theorem chn_len2 {e : Nat → Int} : ∀ (f s : Nat), (∀ t, t ≤ s → e t ≤ t) → (chn e f s).length ≤ s + 1
  | 0, s, _ => by simp [chn]
  | f + 1, s, h => by
    rw [chn, List.length_cons]
    split
    · rename_i z
      have h1 := h s (Nat.le_refl _)
      have := chn_len2 f (s - (e s).toNat) (fun t ht => h t (by omega))
      omega
    · simp
theorem dsL_len {ds : List PyData} {p : Nat} (h : ∀ j, j < p → okB ds j = true) : (dsL ds p).length ≤ p + 1 := by
  unfold dsL
  rw [List.length_cons]
  split
  · rw [List.length_map]
    have := chn_len2 (e := ev ds) p (p - 1) (fun t ht => (okB_el (h t (by omega))).2.2.2)
    omega
  · simp
/-- the distances that may stand behind a beginning -/
def dsI (sh : List Int) : List Int := dsL (sh.map dI) sh.length
def okA (sh : List Int) : Prop := ∀ j, j < sh.length → okB (sh.map dI) j = true
theorem chn_congr {e e' : Nat → Int} : ∀ {f s : Nat}, (∀ i, i ≤ s → e i = e' i) → chn e f s = chn e' f s
  | 0, s, _ => rfl
  | f + 1, s, h => by
    rw [chn, chn, h s (Nat.le_refl _)]
    split
    · rw [chn_congr fun i hi => h i (by omega)]
    · rfl
theorem ev_app {a b : List PyData} {i : Nat} (h : i < a.length) : ev (a ++ b) i = ev a i := by
  unfold ev
  rw [List.getD_eq_getElem?_getD, List.getD_eq_getElem?_getD, List.getElem?_append_left h]
theorem dsL_app {a b : List PyData} {p : Nat} (h : p ≤ a.length) : dsL (a ++ b) p = dsL a p := by
  unfold dsL
  split
  · rw [chn_congr fun i hi => ev_app (by omega)]
  · rfl
theorem okB_app {a b : List PyData} {j : Nat} (h : j < a.length) : okB (a ++ b) j = okB a j := by
  unfold okB
  rw [List.getD_eq_getElem?_getD, List.getD_eq_getElem?_getD, List.getElem?_append_left h]
  by_cases z : 0 < j
  · rw [chn_congr (e := ev (a ++ b)) (e' := ev a) fun i hi => ev_app (by omega)]
  · rw [decide_eq_false z]
    rfl
theorem lex_pre : ∀ (s a b : List Int), a < b → s ++ a < s ++ b
  | [], _, _, h => h
  | x :: s, a, b, h => List.cons_lt_cons_iff.mpr (.inr ⟨rfl, lex_pre s a b h⟩)
theorem chn_desc {e : Nat → Int} : ∀ (f s : Nat), (∀ i, i ≤ s → e i ≤ i) → (chn e f s).Pairwise (· > ·)
  | 0, s, _ => List.pairwise_singleton _ _
  | f + 1, s, h => by
    rw [chn]
    have hs := h s (Nat.le_refl _)
    refine List.pairwise_cons.mpr ⟨fun t ht => ?_, ?_⟩
    · split at ht
      · have := chn_le ht
        rename_i pos
        show t < s
        omega
      · cases ht
    · split
      · exact chn_desc f _ fun i hi => h i (by omega)
      · exact .nil

theorem okA_snoc {sh : List Int} {x : Int} (ok : okA sh) (hx : x ∈ dsI sh) : okA (sh ++ [x]) := by
  intro j hj
  rw [List.length_append, List.length_singleton] at hj
  have em : (sh ++ [x]).map dI = sh.map dI ++ [.int x] := by rw [List.map_append]; rfl
  rw [em]
  by_cases z : j < sh.length
  · rw [okB_app (by rw [List.length_map]; exact z)]
    exact ok j z
  · obtain rfl : j = sh.length := by omega
    have eg : (sh.map dI ++ [PyData.int x]).getD sh.length .none = .int x := by
      rw [List.getD_eq_getElem?_getD, List.getElem?_append_right (by rw [List.length_map]; exact Nat.le_refl _), List.length_map, Nat.sub_self]
      rfl
    rw [okB_iff eg, dsL_app (by rw [List.length_map]; exact Nat.le_refl _)]
    exact decide_eq_true ⟨hx, (dsL_nn hx).1⟩
theorem okA_le {sh : List Int} (ok : okA sh) {i : Nat} (hi : i < sh.length) : ev (sh.map dI) i ≤ i := (okB_el (ok i hi)).2.2.2
theorem dsI_asc {sh : List Int} (ok : okA sh) : (dsI sh).Pairwise (· < ·) := by
  unfold dsI dsL
  refine List.pairwise_cons.mpr ⟨fun v hv => ?_, ?_⟩
  · split at hv
    · obtain ⟨t, ht, rfl⟩ := List.mem_map.mp hv
      have := chn_le ht
      omega
    · cases hv
  · split
    · rw [List.pairwise_map]
      refine List.Pairwise.imp (fun {a b} (h : a > b) => by omega) (chn_desc sh.length (sh.length - 1) fun i hi => okA_le ok (by omega))
    · exact .nil
/-- in a descending list the numbers up to an item are those from it on -/
theorem desc_drop : ∀ {l : List Nat} {c t : Nat}, l.Pairwise (· > ·) → l[c]? = some t → (l.filter fun x => decide (x ≤ t)).length = l.length - c
  | [], c, t, _, h => by cases h
  | a :: l, 0, t, p, h => by
    cases h
    obtain ⟨h1, h2⟩ := List.pairwise_cons.mp p
    rw [List.filter_eq_self.mpr]
    · rfl
    · intro x hx
      rcases List.mem_cons.mp hx with rfl | hx
      · exact decide_eq_true (Nat.le_refl _)
      · exact decide_eq_true (Nat.le_of_lt (h1 x hx))
  | a :: l, c + 1, t, p, h => by
    obtain ⟨h1, h2⟩ := List.pairwise_cons.mp p
    have h : l[c]? = some t := h
    have ht := h1 t (List.mem_of_getElem? h)
    rw [List.filter_cons_of_neg (by simpa using ht), desc_drop h2 h]
    simp
/-- how many distances there are behind one more place -/
theorem W_snoc {sh : List Int} (ok : okA sh) {c : Nat} {x : Int} (hc : (dsI sh)[c]? = some x) : (dsI (sh ++ [x])).length = rsa (dsI sh).length c + 1 := by
  have hx := List.mem_of_getElem? hc
  have ok2 := okA_snoc ok hx
  have em : (sh ++ [x]).map dI = sh.map dI ++ [.int x] := by rw [List.map_append]; rfl
  have ll : (sh ++ [x]).length = sh.length + 1 := by simp
  have ex : ev ((sh ++ [x]).map dI) sh.length = x := by
    unfold ev
    rw [em, List.getD_eq_getElem?_getD, List.getElem?_append_right (by rw [List.length_map]; exact Nat.le_refl _), List.length_map, Nat.sub_self]
    rfl
  have e1 : (dsI (sh ++ [x])).length = 1 + (chn (ev ((sh ++ [x]).map dI)) (sh.length + 1) sh.length).length := by
    unfold dsI dsL
    rw [ll, List.length_cons, if_pos (by omega), List.length_map, Nat.add_sub_cancel]
    omega
  rw [e1, chn, List.length_cons, ex]
  cases c with
  | zero =>
    have : x = 0 := by
      have : (0 : Int) = x := by simpa [dsI, dsL] using hc
      exact this.symm
    subst this
    rw [if_neg (by decide)]
    unfold rsa
    rfl
  | succ c =>
    have hp : 0 < sh.length := by
      cases sh with
      | nil => simp [dsI, dsL] at hc
      | cons a l => simp
    have hc2 : ((chn (ev (sh.map dI)) sh.length (sh.length - 1)).map fun t => (sh.length : Int) - (t : Nat))[c]? = some x := by
      have : dsI sh = 0 :: (chn (ev (sh.map dI)) sh.length (sh.length - 1)).map fun t => (sh.length : Int) - (t : Nat) := by
        unfold dsI dsL
        rw [if_pos hp]
      rw [this] at hc
      exact hc
    rw [List.getElem?_map, Option.map_eq_some_iff] at hc2
    obtain ⟨t, ht, rfl⟩ := hc2
    have htl := chn_le (List.mem_of_getElem? ht)
    rw [if_pos (by omega), show sh.length - ((sh.length : Int) - (t : Nat)).toNat = t by omega]
    have le0 : ∀ u, u ≤ sh.length - 1 → ev (sh.map dI) u ≤ u := fun u hu => okA_le ok (by omega)
    have e2 : chn (ev ((sh ++ [(sh.length : Int) - (t : Nat)]).map dI)) sh.length t = chn (ev (sh.map dI)) sh.length t := by
      rw [em]
      exact chn_congr fun i hi => ev_app (by rw [List.length_map]; omega)
    rw [e2, ← chn_cut sh.length t (by omega) sh.length (sh.length - 1) (by omega) le0 (List.mem_of_getElem? ht), desc_drop (chn_desc sh.length (sh.length - 1) le0) ht]
    have hcl := (List.getElem?_eq_some_iff.mp ht).1
    have e3 : (dsI sh).length = (chn (ev (sh.map dI)) sh.length (sh.length - 1)).length + 1 := by
      unfold dsI dsL
      rw [if_pos hp, List.length_cons, List.length_map]
    rw [e3]
    unfold rsa
    rw [if_neg (by omega)]
    omega

def Zm (f : Nat → Int) (k : Nat) : Int := ((List.range k).map f).sum
theorem Zm_zero (f : Nat → Int) : Zm f 0 = 0 := rfl
theorem Zm_succ (f : Nat → Int) (k : Nat) : Zm f (k + 1) = Zm f k + f k := by
  unfold Zm
  rw [List.range_succ, List.map_append, List.sum_append]
  simp
theorem Zm_congr {f g : Nat → Int} : ∀ {k : Nat}, (∀ j, j < k → f j = g j) → Zm f k = Zm g k
  | 0, _ => rfl
  | k + 1, h => by rw [Zm_succ, Zm_succ, Zm_congr (fun j hj => h j (by omega)), h k (by omega)]
theorem Zm_shift (f : Nat → Int) : ∀ k, Zm f (k + 1) = f 0 + Zm (fun j => f (j + 1)) k
  | 0 => by rw [Zm_succ, Zm_zero, Zm_zero]; omega
  | k + 1 => by rw [Zm_succ, Zm_shift f k, Zm_succ]; omega
theorem Zm_mono {f : Nat → Int} {a b : Nat} (h : ∀ j, j < b → 0 ≤ f j) (hab : a ≤ b) : Zm f a ≤ Zm f b := by
  induction b with
  | zero => rw [show a = 0 by omega]; exact Int.le_refl _
  | succ b ih =>
    by_cases e : a = b + 1
    · rw [e]; exact Int.le_refl _
    · have := ih (fun j hj => h j (by omega)) (by omega)
      have := h b (by omega)
      rw [Zm_succ]
      omega
theorem en_scan : ∀ {l : List Int} {p : Int} {i : Nat}, i < l.length → en (scan p l) i = p + Zm (en l) (i + 1)
  | x :: r, p, 0, _ => by
    rw [Zm_succ, Zm_zero]
    show p + x = p + (0 + x)
    omega
  | x :: r, p, i + 1, h => by
    have ih := en_scan (l := r) (p := p + x) (i := i) (by simpa using h)
    rw [Zm_shift]
    show en (scan (p + x) r) i = p + (x + Zm (fun j => en r j) (i + 1))
    rw [ih]
    show p + x + Zm (en r) (i + 1) = p + (x + Zm (en r) (i + 1))
    omega
theorem en_next : ∀ {l : List Int} {i : Nat}, i + 1 < l.length → en (nextRow l) i = Zm (fun q => en l (q + 1)) (i + 1)
  | a :: b :: r, 0, _ => by
    rw [Zm_succ, Zm_zero]
    show b = 0 + b
    omega
  | a :: b :: r, i + 1, h => by
    rw [Zm_shift]
    show en (scan b r) i = b + Zm (fun j => en r j) (i + 1)
    exact en_scan (by simpa using h)
  | [], i, h => by simp at h
  | [a], i, h => by simp at h
theorem S_rev0 (l : List Int) (r : Nat) : ∀ c, c ≤ r → Zm (fun j => en l (rsa (r + 1) j)) (c + 1) + Zm (fun q => en l (q + 2)) (r - c) = en l 1 + Zm (fun q => en l (q + 2)) r
  | 0, _ => by
    rw [Zm_succ, Zm_zero, Nat.sub_zero]
    show 0 + en l 1 + _ = _
    omega
  | c + 1, h => by
    have ih := S_rev0 l r c (by omega)
    rw [Zm_succ]
    rw [show r - c = (r - (c + 1)) + 1 by omega, Zm_succ (fun q => en l (q + 2))] at ih
    have e : rsa (r + 1) (c + 1) = r - (c + 1) + 2 := by unfold rsa; rw [if_neg (by omega)]; omega
    rw [e]
    omega
theorem S_rev (l : List Int) (r : Nat) : Zm (fun j => en l (rsa (r + 1) j)) (r + 1) = Zm (fun q => en l (q + 1)) (r + 1) := by
  have h := S_rev0 l r r (Nat.le_refl _)
  rw [Nat.sub_self, Zm_zero] at h
  rw [Zm_shift (fun q => en l (q + 1))]
  show _ = en l 1 + Zm (fun q => en l (q + 2)) r
  omega
theorem row_sum {n k r : Nat} (hr : r + (k + 1) ≤ n) : en (rowAt n (k + 1)) r = Zm (fun j => en (rowAt n k) (rsa (r + 1) j)) (r + 1) := by
  rw [S_rev]
  exact en_next (by rw [rowAt_length n k (by omega)]; omega)
theorem row0 {n i : Nat} (h : i ≤ n) : en (rowAt n 0) i = 1 := by
  show (List.replicate (n + 1) (1 : Int)).getD i 0 = 1
  rw [List.getD_eq_getElem?_getD, List.getElem?_replicate, if_pos (by omega)]
  rfl
theorem row_pos {n : Nat} : ∀ (k i : Nat), i + k ≤ n → 1 ≤ en (rowAt n k) i
  | 0, i, h => by rw [row0 (by omega)]; exact Int.le_refl _
  | k + 1, i, h => by
    show 1 ≤ en (nextRow (rowAt n k)) i
    rw [en_next (by rw [rowAt_length n k (by omega)]; omega), Zm_shift]
    have h1 := row_pos (n := n) k 1 (by omega)
    have h2 := Zm_mono (f := fun j => en (rowAt n k) (j + 1 + 1)) (a := 0) (b := i) (fun j hj => by have := row_pos (n := n) k (j + 2) (by omega); show 0 ≤ en (rowAt n k) (j + 2); omega) (Nat.zero_le _)
    rw [Zm_zero] at h2
    show 1 ≤ en (rowAt n k) 1 + _
    omega
theorem stepC_ok {cs : List Int} {len : Nat} {t : Nat → Int} (ht : ∀ j, j < len → rsa len j < cs.length ∧ t j = en cs (rsa len j)) : ∀ (f c : Nat) (R : Int), len < f + c → c ≤ len → Zm t c ≤ R → R < Zm t len → ∃ c', stepC cs len f c (R - Zm t c) = some (c', R - Zm t c') ∧ c' < len ∧ Zm t c' ≤ R ∧ R < Zm t (c' + 1)
  | 0, c, R, h1, h2, h3, h4 => by omega
  | f + 1, c, R, h1, h2, h3, h4 => by
    have hc : c < len := by
      refine Classical.byContradiction fun z => ?_
      have : c = len := by omega
      rw [this] at h3
      omega
    obtain ⟨t1, t2⟩ := ht c hc
    rw [stepC, if_pos ⟨hc, t1⟩, ← t2]
    by_cases z : t c ≤ R - Zm t c
    · rw [if_pos z, show R - Zm t c - t c = R - Zm t (c + 1) by rw [Zm_succ]; omega]
      exact stepC_ok ht f (c + 1) R (by omega) hc (by rw [Zm_succ]; omega) h4
    · rw [if_neg z]
      exact ⟨c, rfl, hc, h3, by rw [Zm_succ]; omega⟩
/-- what a place adds to the index -/
def lowAt (n : Nat) (ds : List PyData) (i : Nat) : Int := Zm (fun j => en (rowAt n (n - 1 - i)) (rsa (dsL ds i).length j)) ((dsL ds i).idxOf (ev ds i))
theorem sidx_low (ds : List PyData) : sidxD ds = Zm (lowAt ds.length ds) ds.length := rfl
theorem dsI_pos (sh : List Int) : 1 ≤ (dsI sh).length := by unfold dsI dsL; simp
theorem dsI_len {sh : List Int} (ok : okA sh) : (dsI sh).length ≤ sh.length + 1 := by
  unfold dsI
  have := dsL_len (ds := sh.map dI) (p := sh.length) (fun j hj => ok j hj)
  exact this
theorem asc_idx {l : List Int} (p : l.Pairwise (· < ·)) {c : Nat} {x : Int} (h : l[c]? = some x) : l.idxOf x = c := by
  have nd : l.Nodup := p.imp fun h => Int.ne_of_lt h
  obtain ⟨hc, e⟩ := List.getElem?_eq_some_iff.mp h
  have hi := List.idxOf_lt_length_of_mem (List.mem_of_getElem? h)
  have e2 : l[l.idxOf x] = l[c] := by rw [e]; exact List.getElem_idxOf hi
  exact (List.getElem_inj nd).mp e2
theorem low_mid {n : Nat} {sh u : List Int} {x : Int} : lowAt n ((sh ++ x :: u).map dI) sh.length = Zm (fun j => en (rowAt n (n - 1 - sh.length)) (rsa (dsI sh).length j)) ((dsI sh).idxOf x) := by
  have em : (sh ++ x :: u).map dI = sh.map dI ++ (x :: u).map dI := List.map_append
  have ee : ev (sh.map dI ++ (x :: u).map dI) sh.length = x := by
    unfold ev
    rw [List.getD_eq_getElem?_getD, List.getElem?_append_right (by rw [List.length_map]; exact Nat.le_refl _), List.length_map, Nat.sub_self]
    rfl
  unfold lowAt
  rw [em, dsL_app (by rw [List.length_map]; exact Nat.le_refl _), ee]
  rfl
theorem okA_pre {sh u : List Int} (ok : okA (sh ++ u)) : okA sh := fun j hj => by
  have := ok j (by rw [List.length_append]; omega)
  rw [List.map_append, okB_app (by rw [List.length_map]; exact hj)] at this
  exact this
theorem okA_mem {sh u : List Int} {x : Int} (ok : okA (sh ++ x :: u)) : x ∈ dsI sh := by
  have := ok sh.length (by simp)
  have eg : ((sh ++ x :: u).map dI).getD sh.length .none = .int x := by
    rw [List.map_append, List.getD_eq_getElem?_getD, List.getElem?_append_right (by rw [List.length_map]; exact Nat.le_refl _), List.length_map, Nat.sub_self]
    rfl
  rw [okB_iff eg, List.map_append, dsL_app (by rw [List.length_map]; exact Nat.le_refl _)] at this
  exact (of_decide_eq_true this).1
/-- the rest of an index -/
def restS (n : Nat) (sh u : List Int) : Int := Zm (fun i => lowAt n ((sh ++ u).map dI) (sh.length + i)) u.length
theorem rest_cons {n : Nat} {sh u : List Int} {x : Int} : restS n sh (x :: u) = Zm (fun j => en (rowAt n (n - 1 - sh.length)) (rsa (dsI sh).length j)) ((dsI sh).idxOf x) + restS n (sh ++ [x]) u := by
  unfold restS
  rw [List.length_cons, Zm_shift, Nat.add_zero, low_mid]
  congr 1
  refine Zm_congr fun j _ => ?_
  rw [List.append_assoc, List.length_append, List.length_singleton, show sh.length + (j + 1) = sh.length + 1 + j by omega]
  rfl
theorem rest_bd {n : Nat} : ∀ (u sh : List Int), sh.length + u.length = n → okA (sh ++ u) → 0 ≤ restS n sh u ∧ restS n sh u < en (rowAt n u.length) ((dsI sh).length - 1)
  | [], sh, hl, ok => by
    rw [List.append_nil] at ok
    have h1 := dsI_len ok
    have hl : sh.length = n := hl
    show 0 ≤ (0 : Int) ∧ (0 : Int) < en (rowAt n 0) _
    rw [row0 (by omega)]
    decide
  | x :: u, sh, hl, ok => by
    have okp := okA_pre ok
    have hx := okA_mem ok
    have hc := List.idxOf_lt_length_of_mem hx
    have hg : (dsI sh)[(dsI sh).idxOf x]? = some x := by rw [List.getElem?_eq_getElem hc, List.getElem_idxOf]
    have hl' : sh.length + (u.length + 1) = n := hl
    have ih := rest_bd (n := n) u (sh ++ [x]) (by rw [List.length_append]; show sh.length + 1 + u.length = n; omega) (by rw [List.append_assoc]; exact ok)
    rw [W_snoc okp hg, Nat.add_sub_cancel] at ih
    have h1 := dsI_len okp
    have h0 := dsI_pos sh
    obtain ⟨t, htd⟩ : ∃ t : Nat → Int, t = fun j => en (rowAt n u.length) (rsa (dsI sh).length j) := ⟨_, rfl⟩
    have rs : en (rowAt n (u.length + 1)) ((dsI sh).length - 1) = Zm t (dsI sh).length := by
      rw [row_sum (by omega), show (dsI sh).length - 1 + 1 = (dsI sh).length by omega, htd]
    have nn : ∀ j, j < (dsI sh).length → 0 ≤ t j := fun j hj => by
      rw [htd]
      have : rsa (dsI sh).length j + u.length ≤ n := by unfold rsa; split <;> omega
      have := row_pos (n := n) u.length _ this
      show 0 ≤ en _ _
      omega
    rw [rest_cons, List.length_cons, rs, show n - 1 - sh.length = u.length by omega, ← htd]
    have m0 := Zm_mono (f := t) (a := 0) (b := (dsI sh).idxOf x) (fun j hj => nn j (by omega)) (Nat.zero_le _)
    have m1 := Zm_mono (f := t) (a := (dsI sh).idxOf x + 1) (b := (dsI sh).length) nn hc
    rw [Zm_succ] at m1
    rw [Zm_zero] at m0
    have te : t ((dsI sh).idxOf x) = en (rowAt n u.length) (rsa (dsI sh).length ((dsI sh).idxOf x)) := by rw [htd]
    rw [← te] at ih
    omega
theorem asc_lt {l : List Int} (p : l.Pairwise (· < ·)) {x y : Int} (hx : x ∈ l) (hy : y ∈ l) (h : x < y) : l.idxOf x < l.idxOf y := by
  have ix := List.idxOf_lt_length_of_mem hx
  have iy := List.idxOf_lt_length_of_mem hy
  refine Classical.byContradiction fun z => ?_
  have ex : l[l.idxOf x] = x := List.getElem_idxOf ix
  have ey : l[l.idxOf y] = y := List.getElem_idxOf iy
  by_cases e : l.idxOf x = l.idxOf y
  · have : x = y := by rw [← ex, ← ey]; simp only [e]
    omega
  · have := List.pairwise_iff_getElem.mp p (l.idxOf y) (l.idxOf x) iy ix (by omega)
    omega
/-- smaller shapes have smaller indexes -/
theorem rest_lt {n : Nat} : ∀ (u v sh : List Int), sh.length + u.length = n → v.length = u.length → okA (sh ++ u) → okA (sh ++ v) → u < v → restS n sh u < restS n sh v
  | [], [], sh, _, _, _, _, h => absurd h (by simp)
  | x :: u, y :: v, sh, hl, hv, ok1, ok2, h => by
    have okp := okA_pre ok1
    have hx := okA_mem ok1
    have hy := okA_mem ok2
    have hl' : sh.length + (u.length + 1) = n := hl
    have hv' : v.length = u.length := by simpa using hv
    rcases List.cons_lt_cons_iff.mp h with h | ⟨rfl, h2⟩
    · have hc := List.idxOf_lt_length_of_mem hx
      have hd := List.idxOf_lt_length_of_mem hy
      have hg : (dsI sh)[(dsI sh).idxOf x]? = some x := by rw [List.getElem?_eq_getElem hc, List.getElem_idxOf]
      have b1 := rest_bd (n := n) u (sh ++ [x]) (by rw [List.length_append]; show sh.length + 1 + u.length = n; omega) (by rw [List.append_assoc]; exact ok1)
      have b2 := rest_bd (n := n) v (sh ++ [y]) (by rw [List.length_append]; show sh.length + 1 + v.length = n; omega) (by rw [List.append_assoc]; exact ok2)
      rw [W_snoc okp hg, Nat.add_sub_cancel] at b1
      have lt := asc_lt (dsI_asc okp) hx hy h
      obtain ⟨t, htd⟩ : ∃ t : Nat → Int, t = fun j => en (rowAt n u.length) (rsa (dsI sh).length j) := ⟨_, rfl⟩
      have h1 := dsI_len okp
      have nn : ∀ j, j < (dsI sh).length → 0 ≤ t j := fun j hj => by
        rw [htd]
        have : rsa (dsI sh).length j + u.length ≤ n := by unfold rsa; split <;> omega
        have := row_pos (n := n) u.length _ this
        show 0 ≤ en _ _
        omega
      rw [rest_cons, rest_cons, show n - 1 - sh.length = u.length by omega, ← htd]
      have m1 := Zm_mono (f := t) (a := (dsI sh).idxOf x + 1) (b := (dsI sh).idxOf y) (fun j hj => nn j (by omega)) lt
      rw [Zm_succ] at m1
      have te : t ((dsI sh).idxOf x) = en (rowAt n u.length) (rsa (dsI sh).length ((dsI sh).idxOf x)) := by rw [htd]
      rw [← te] at b1
      omega
    · rw [rest_cons, rest_cons]
      have := rest_lt (n := n) u v (sh ++ [x]) (by rw [List.length_append]; show sh.length + 1 + u.length = n; omega) hv' (by rw [List.append_assoc]; exact ok1) (by rw [List.append_assoc]; exact ok2) h2
      omega
  | [], y :: v, sh, _, hv, _, _, _ => by simp at hv
  | x :: u, [], sh, _, hv, _, _, _ => by simp at hv
theorem sidx_rest (sh : List Int) : sidxD (sh.map dI) = restS sh.length [] sh := by
  rw [sidx_low, List.length_map]
  unfold restS
  refine Zm_congr fun j _ => ?_
  rw [List.nil_append, List.length_nil, Nat.zero_add]
theorem lex_tri : ∀ (u v : List Int), u.length = v.length → u < v ∨ u = v ∨ v < u
  | [], [], _ => .inr (.inl rfl)
  | x :: u, y :: v, h => by
    rcases Int.lt_trichotomy x y with z | z | z
    · exact .inl (List.cons_lt_cons_iff.mpr (.inl z))
    · subst z
      rcases lex_tri u v (by simpa using h) with z | z | z
      · exact .inl (List.cons_lt_cons_iff.mpr (.inr ⟨rfl, z⟩))
      · exact .inr (.inl (by rw [z]))
      · exact .inr (.inr (List.cons_lt_cons_iff.mpr (.inr ⟨rfl, z⟩)))
    · exact .inr (.inr (List.cons_lt_cons_iff.mpr (.inl z)))
  | [], y :: v, h => by simp at h
  | x :: u, [], h => by simp at h
theorem sidx_lt {a b : List Int} (hl : a.length = b.length) (oa : okA a) (ob : okA b) (h : a < b) : sidxD (a.map dI) < sidxD (b.map dI) := by
  rw [sidx_rest, sidx_rest, ← hl]
  exact rest_lt a b [] (by simp) hl.symm oa ob h
theorem sidx_inj {a b : List Int} (hl : a.length = b.length) (oa : okA a) (ob : okA b) (h : sidxD (a.map dI) = sidxD (b.map dI)) : a = b := by
  rcases lex_tri a b hl with z | z | z
  · have := sidx_lt hl oa ob z; omega
  · exact z
  · have := sidx_lt hl.symm ob oa z; omega
theorem sidx_lt_iff {a b : List Int} (hl : a.length = b.length) (oa : okA a) (ob : okA b) : sidxD (a.map dI) < sidxD (b.map dI) ↔ a < b := by
  refine ⟨fun h => ?_, sidx_lt hl oa ob⟩
  rcases lex_tri a b hl with z | z | z
  · exact z
  · rw [z] at h; omega
  · have := sidx_lt hl.symm ob oa z; omega
theorem sidx_bd {a : List Int} (oa : okA a) : 0 ≤ sidxD (a.map dI) ∧ sidxD (a.map dI) < en (rowAt a.length a.length) 0 := by
  rw [sidx_rest]
  exact rest_bd a [] (by simp) oa
/-- the shape at an index -/
theorem satGo_ok {n : Nat} (hn : n ≤ 60) : ∀ (k : Nat) (sh : List Int) (R : Int), sh.length + k = n → okA sh → 0 ≤ R → R < en (rowAt n k) ((dsI sh).length - 1) → ∃ u, satGo n k sh R = some (sh ++ u) ∧ u.length = k ∧ okA (sh ++ u) ∧ restS n sh u = R
  | 0, sh, R, hl, ok, h0, h1 => by
    have := dsI_len ok
    rw [row0 (by omega)] at h1
    exact ⟨[], by rw [List.append_nil]; rfl, rfl, by rw [List.append_nil]; exact ok, by show (0 : Int) = R; omega⟩
  | k + 1, sh, R, hl, ok, h0, h1 => by
    have w1 := dsI_len ok
    have w0 := dsI_pos sh
    obtain ⟨t, htd⟩ : ∃ t : Nat → Int, t = fun j => en (rowAt n k) (rsa (dsI sh).length j) := ⟨_, rfl⟩
    rw [row_sum (by omega), show (dsI sh).length - 1 + 1 = (dsI sh).length by omega, ← htd] at h1
    have rl := rowAt_length n k (by omega)
    obtain ⟨c, e, hc, c1, c2⟩ := stepC_ok (cs := rowAt n k) (len := (dsI sh).length) (t := t) (fun j hj => ⟨by rw [rl]; unfold rsa; split <;> omega, by rw [htd]⟩) 70 0 R (by omega) (Nat.zero_le _) (by rw [Zm_zero]; exact h0) h1
    rw [Zm_zero, Int.sub_zero] at e
    have hg : (dsI sh)[c]? = some (en (dsI sh) c) := by
      rw [List.getElem?_eq_getElem hc]
      unfold en
      rw [List.getD_eq_getElem?_getD, List.getElem?_eq_getElem hc]
      rfl
    have okx := okA_snoc ok (List.mem_of_getElem? hg)
    have te : t c = en (rowAt n k) (rsa (dsI sh).length c) := by rw [htd]
    rw [Zm_succ] at c2
    obtain ⟨u, e1, e2, e3, e4⟩ := satGo_ok hn k (sh ++ [en (dsI sh) c]) (R - Zm t c) (by rw [List.length_append]; show sh.length + 1 + k = n; omega) okx (by omega) (by rw [W_snoc ok hg, Nat.add_sub_cancel, ← te]; omega)
    refine ⟨en (dsI sh) c :: u, ?_, by rw [List.length_cons, e2], by rw [List.append_assoc] at e3; exact e3, ?_⟩
    · rw [satGo, show n - (k + 1) = sh.length by omega, if_pos (List.all_eq_true.mpr fun j hj => ok j (List.mem_range.mp hj)), show n - 1 - sh.length = k by omega]
      show (match stepC (rowAt n k) (dsI sh).length 70 0 R with | some (c, r') => satGo n k (sh ++ [en (dsI sh) c]) r' | none => none) = _
      rw [e]
      show satGo n k (sh ++ [en (dsI sh) c]) (R - Zm t c) = _
      rw [e1, List.append_assoc]
      rfl
    · rw [rest_cons, e4, asc_idx (dsI_asc ok) hg, show n - 1 - sh.length = k by omega, ← htd]
      omega
theorem okA_nil : okA [] := fun j hj => absurd hj (Nat.not_lt_zero _)
/-- at each index stands one shape -/
theorem sat_all {n : Nat} (h1 : 1 ≤ n) (hn : n ≤ 60) {R : Int} (h0 : 0 ≤ R) (hR : R < cat n) : ∃ u, satGo n n [] R = some u ∧ u.length = n ∧ okA u ∧ sidxD (u.map dI) = R := by
  have hc : en (rowAt n n) 0 = cat n := by
    unfold en
    rw [List.getD_eq_getElem?_getD, cnt_cat' hn h1]
    rfl
  obtain ⟨u, e1, e2, e3, e4⟩ := satGo_ok hn n [] R (by simp) okA_nil h0 (by show R < en (rowAt n n) 0; rw [hc]; exact hR)
  exact ⟨u, e1, e2, e3, by rw [sidx_rest, e2]; exact e4⟩
theorem sidx_cat {a : List Int} (oa : okA a) (h1 : 1 ≤ a.length) (h2 : a.length ≤ 60) : 0 ≤ sidxD (a.map dI) ∧ sidxD (a.map dI) < cat a.length := by
  have hc : en (rowAt a.length a.length) 0 = cat a.length := by
    unfold en
    rw [List.getD_eq_getElem?_getD, cnt_cat' h2 h1]
    rfl
  have := sidx_bd oa
  rw [hc] at this
  exact this
/-- .. and the shape at its index is the shape -/
theorem sat_back {a : List Int} (oa : okA a) (h1 : 1 ≤ a.length) (h2 : a.length ≤ 60) : satGo a.length a.length [] (sidxD (a.map dI)) = some a := by
  obtain ⟨b0, b1⟩ := sidx_cat oa h1 h2
  obtain ⟨u, e1, e2, e3, e4⟩ := sat_all h1 h2 b0 b1
  rw [e1, sidx_inj e2 e3 oa e4]
end Lw
namespace PySem
namespace NoIndexX
open PySem.W PySem.Calls PyProof.Rows PySem.HandSPX
abbrev exTl : List Value := [.type "LookupError", .type "Exception", .type "BaseException", .type "object"]
/-! ### the text of __init__ -/
def iA (p1 p2 : Pos) : Arguments := { posonlyargs := [], args := [{ arg := "self", annotation := none, pos := p1 }, { arg := "value", annotation := none, pos := p2 }], vararg := none, kwonlyargs := [], kw_defaults := [], kwarg := none, defaults := [] }
def iB (q1 q2 q3 q4 : Pos) : List Stmt := [.Assign [.Attribute (.Name "self" q1) "value" q2] (.Name "value" q3) q4]
def iS : Scope := { kind := .function, names := [(PySem.Str.ofString "self", .local), (PySem.Str.ofString "value", .local)], isGenerator := false, isCoroutine := false, more := [] }
/-- what the written part says of Low, at C, and of its __init__, at fI -/
structure NoIndexTxt (K : Frag) (mg : Str → Option Value) (C fI : Addr) : Prop where
  gC : mg "NoIndex" = some (.ref C)
  cls : ∃ nm q N bs bm sn sub ab col dd k0 k1 k2 k3 k5, K.lookup C = some (excClassObj nm q C N bs bm true sn sub ab col dd k0 k1 k2 k3 k5 "LookupError.__new__") ∧ excTail exTl bm = true
  sa : findIn K (.ref C) "__setattr__" = some (some (.builtin "object.__setattr__"))
  ga : findIn K (.ref C) "__getattribute__" = some (some (.builtin "BaseException.__getattribute__"))
  gg : findIn K (.ref C) "__getattr__" = some none
  noN : findIn K (.ref C) "value" = some none
  iC : findIn K (.ref C) "__init__" = some (some (.ref fI))
  tC : typeIn K (.ref fI) = some (.type "function")
  kC : keepIn K (.ref C) = true
  exC : subIn K (.ref C) (.type "BaseException") = some true
  tyC : typeIn K (.ref C) = some (.type "type")
  hdC : hasDictIn K C = true
  te : exmOne K (.ref C) (.ref C) = some true
  fn : ∃ (oc : Value) (od : Option Addr) (doc pm : Value) (an : Option Addr) (cdv ct : Value) (osl : Array (Option Value)) (p1 p2 q1 q2 q3 q4 : Pos),
    K.lookup fI = some ⟨oc, od, .func (fnOf "__init__" "NoIndex.__init__" (iA p1 p2) (iB q1 q2 q3 q4) iS .none .none doc pm an cdv ct), osl⟩ ∧ codeIn K cdv "NoIndex.__init__" = true
theorem one_size (v : Value) : [v].length ≤ sizeLine := by
  rw [sizeLine_eq]
  exact (by decide : 1 ≤ 16777216)
theorem kept_but {K : Frag} {h h' : Heap} {x : Addr} (X : K.In h) (hx : K.lookup x = none) (k : ∀ b o, b ≠ x → h.get? b = some o → h'.get? b = some o) : K.In h' := fun a o e =>
  k a o (fun z => by rw [z, hx] at e; cases e) (X a o e)
theorem ldC {M : Model} {s : Shared} {name : Str} {scope : Scope} {L a : Addr} {cd : Value} {m : Str → Option Value} {x : Str} {pos : Pos} {v : Value} {Q : Value → Shared → Prop} {A : Around} {E : Value → Shared → Prop} (hn : s.heap.Ns L m) (hv : m x = some v) (h : Q v s)
    (hk : scope.kind = .function := by rfl) (hl : (envOfC name scope L a cd).kindOf x = some .local := by rfl) (hd : (x == ("__debug__" : Str)) = false := by decide) :
    wpAny M A (eval (.Name x pos) (envOfC name scope L a cd)) Q E s := wpAny_Name (wpAny_loadName_local hk hl hn hv h) hd
/-- what __init__ leaves of a fresh exception at x -/
structure InitEnd (h h' : Heap) (x C dx t1 : Addr) (v : Value) : Prop where
  keep : ∀ b o, b ≠ x → h.get? b = some o → h'.get? b = some o
  obj : h'.get? x = some { cls := .ref C, dict := some dx, data := .fields #[.ref t1, .none, .none, .none, .bool false, .none] }
  dbig : h.objs.size ≤ dx
  dne : dx ≠ x
  ns : h'.Ns1 dx (fun y => if y = "value" then some v else none)
/-- a made Low -/
structure OwnMade (h h' : Heap) (e C d : Addr) (v : Value) : Prop where
  keep : ∀ b o, h.get? b = some o → h'.get? b = some o
  new : h.objs.size ≤ e
  obj : ∃ oe vs, h'.get? e = some oe ∧ oe.cls = .ref C ∧ oe.dict = some d ∧ oe.data = .fields vs ∧ vs[1]? = some .none
  dbig : h.objs.size ≤ d
  dne : d ≠ e
  ns : h'.Ns1 d (fun y => if y = "value" then some v else none)
section
variable {prog : Program} {w : World} {A : Around} {E : Value → Shared → Prop} {R : Result → Shared → Prop} {s : Shared} {K : Frag} {mg : Str → Option Value} {C fI : Addr}
theorem value_init (T : NoIndexTxt K mg C fI) {x t0 : Addr} {v : Value} (X : K.In s.heap) (hlim : s.heap.NoLimit) (hx : s.heap.get? x = some (excO C t0)) (hnx : K.lookup x = none) (hroom : A.depth < recursionLimit)
    (hq : ∀ h' tk dx, InitEnd s.heap h' x C dx t0 v → R (.ok (.ret .none)) { s with heap := h', toks := tk }) :
    codeAny (model prog w) A (.call (.ref fI) ⟨[.ref x, v], []⟩) R s := by
  obtain ⟨oc, od, doc, pm, an, cdv, ct, osl, p1, p2, q1, q2, q3, q4, ho, hcd⟩ := T.fn
  obtain ⟨nm, q, N, bs, bm, sn, sub, ab, col, dd, k0, k1, k2, k3, k5, hC, hbm⟩ := T.cls
  have hcl : clsIn K C = some { name := nm, bases := bs, mro := .ref C :: bm, ns := N, qualname := q, hasDict := true, slotNames := sn, subclasses := sub, abstract := ab, collection := col, hasDel := false } := by unfold clsIn; rw [hC] <;> rfl
  refine Att.call_fn (binds := [("self", .ref x), ("value", v)]) X hlim ho hcd hroom (BindsTo.of_eq (by first | rfl | with_unfolding_all rfl)) (by first | rfl | decide | with_unfolding_all rfl) (fun s₁ IC => ?_) rfl rfl rfl
  obtain ⟨h₁, tk₁, rfl⟩ := IC.toInCall.same
  have k : ∀ b o, s.heap.get? b = some o → h₁.get? b = some o := IC.toInCall.keep
  have hn := IC.toInCall.ns
  have hxL : s.heap.objs.size ≠ x := Nat.ne_of_gt (Heap.lt_size hx)
  have X₁ : K.In h₁ := X.keeps k
  have hx₁ := k _ _ hx
  -- self.by = by
  show wpAny _ _ (execs _ _) _ _ _
  refine wpAny_execs_cons (plainObj_wpAny_Assign_Attribute ?_)
  refine ldC (v := v) hn (by first | rfl | with_unfolding_all rfl | kernel_rfl) (ldC (v := .ref x) hn (by first | rfl | with_unfolding_all rfl | kernel_rfl) ?_)
  refine set_plain X₁ (ox := excO C t0) (od := none) ⟨hx₁, rfl, rfl, trivial⟩ T.sa ?_
  refine Gd.osaX (fun self => F.store_LookupError.passes self) (by decide +kernel) X₁ hx₁ hcl (show excTail exTl (.ref C :: bm) = true from hbm) rfl T.noN (fun h₃ tk₃ dx k₃ dn dne hx₃ hn₃ => ?_)
  show wpAny _ _ (execs _ _) _ _ _
  have z : s.heap.objs.size < h₁.objs.size := hn.lt
  exact wpAny_execs_nil (hq h₃ tk₃ dx ⟨fun b o hb e => k₃ b o hb (k b o e), hx₃, Nat.le_of_lt (Nat.lt_of_lt_of_le z dn), dne, hn₃⟩)
theorem value_made (T : NoIndexTxt K mg C fI) {v : Value} (X : K.In s.heap) (hlim : s.heap.NoLimit) (hroom : A.depth + 1 < recursionLimit)
    (hq : ∀ h' tk e d, OwnMade s.heap h' e C d v → R (.ok (.ret (.ref e))) { s with heap := h', toks := tk }) :
    codeAny (model prog w) A (.call (.ref C) ⟨[v], []⟩) R s := by
  obtain ⟨nm, q, N, bs, bm, sn, sub, ab, col, dd, k0, k1, k2, k3, k5, hC, hbm⟩ := T.cls
  obtain ⟨hp, g, dr, tk, os⟩ := s
  have k : ∀ b o, hp.get? b = some o → ((hp.push (kdv_tup [v])).push (excO C hp.objs.size)).get? b = some o := fun b o e => Heap.get?_push_of_some _ (Heap.get?_push_of_some _ e)
  have hget : ((hp.push (kdv_tup [v])).push (excO C hp.objs.size)).get? (hp.objs.size + 1) = some (excO C hp.objs.size) := by heap_get
  have hnx : K.lookup (hp.objs.size + 1) = none := by
    cases e : K.lookup (hp.objs.size + 1) with
    | none => rfl
    | some o =>
      have z : hp.get? (hp.objs.size + 1) = some o := X _ _ e
      exact absurd (Nat.lt_of_succ_lt (Heap.lt_size z)) (Nat.lt_irrefl _)
  refine call_own F.excBase_LookupError (fun X => excTail_contains X bm hbm) (X _ _ hC) (looks_findIn X T.iC) (fun self => bind_fn X self T.tC) (one_size v) ?_
  refine value_init (s := ⟨(hp.push (kdv_tup [v])).push (excO C hp.objs.size), g, dr, tk, os⟩) T (X.keeps k) (hlim.keeps k) hget hnx ?_ fun h' tk' dx ⟨k', hx, dn, dne, hns⟩ => ?_
  · show A.depth + 1 < recursionLimit
    exact hroom
  · have old : ∀ b o, hp.get? b = some o → h'.get? b = some o := fun b o e => k' b o (Nat.ne_of_lt (Nat.lt_succ_of_lt (Heap.lt_size e))) (k b o e)
    have z : hp.objs.size + 1 + 1 ≤ dx := by
      first
        | (simpa only [Heap.size_push] using dn)
        | exact dn
        | (have q := dn; rw [Heap.size_push, Heap.size_push] at q; exact q)
    exact ⟨rfl, hq h' tk' (hp.objs.size + 1) dx ⟨old, Nat.le_succ _, ⟨_, _, hx, rfl, rfl, rfl, rfl⟩, Nat.le_trans (Nat.le_trans (Nat.le_succ _) (Nat.le_succ _)) z, dne, hns⟩⟩
end
end NoIndexX
end PySem
namespace L2
open PySem PySem.Spec PyProof.Rows
theorem relO_value {v : V} {v' : Value} (r : RelV v v') (f : Str) : RelO (List.lookup f [(("value" : Str), v)]) (if f = "value" then some v' else none) := by
  by_cases hw : f = "value"
  · subst hw
    rw [if_pos rfl]
    have q : List.lookup ("value" : Str) [(("value" : Str), v)] = some v := by simp [List.lookup]
    rw [q]
    exact r
  · rw [if_neg hw]
    have qw : (f == ("value" : Str)) = false := by simpa using hw
    have q2 : List.lookup f [(("value" : Str), v)] = none := by simp [List.lookup, qw]
    rw [q2]
    trivial
section
variable {X : Cx} {C fI : Addr}
/-- Low(e) -/
def tMkNoIndex (C : Addr) (ta : TA) : St → Hp → XK → Prop := fun σ H Q => ta σ H fun vs H1 => ∃ v, vs = [v] ∧ ∀ d, H1 d = none → Q (.ref C) (some d) (upd H1 d (.xd [(("value" : Str), v)]))
theorem pmk_NoIndex {a : Expr} {ta : TA} {p pos : Pos} {k : Nat} (T : PySem.NoIndexX.NoIndexTxt X.K X.mg C fI) (hr : Room k X.A) (ha : PA X [a] ta) (hg : Gl X "NoIndex" := by rfl)
    (he : starEach (a :: []) X.env = (false, eval a X.env) :: starEach [] X.env := by rfl) (hpl : (backTo pos (starEach [] X.env)).any (·.1) = false := by rfl) :
    PMk X (.Call (.Name "NoIndex" p) [a] [] pos) (tMkNoIndex C ta) := by
  intro pins s σ H Q I h
  refine wpAny_Call_Name_kw (ld_glob I hg T.gC ?_)
  refine PySem.W.callWith_K (h₀ := X.base) I.ok.mod.kin T.kC (thn (ha.run pos pins s σ H _ I h) fun us s1 hh => ?_) he hpl
  obtain ⟨vs, H1, I1, r1, v, ev, q1⟩ := hh
  subst ev
  refine ⟨I1.kIn, ?_⟩
  cases r1 with
  | cons rv rn =>
    rename_i v' us'
    cases rn
    show wpAny _ _ (call (.ref C) [v']) _ _ _
    have hlim := I1.nolimit
    obtain ⟨hp, g, dr, tk, os⟩ := s1
    refine wpAny_call (PySem.NoIndexX.value_made T I1.kIn hlim (by have := hr.dp; omega) fun h' tk' e d M => ?_)
    show MkP X pins σ Q (.ref e) ⟨h', g, dr, tk', os⟩
    obtain ⟨oe, fv, hoe, hc, hd, hdat, h1⟩ := M.obj
    have hns := M.ns
    obtain ⟨G', g1, g2⟩ := restrict h' fun b => decide (b ≠ e)
    have gk : ∀ b, b ≠ e → G'.get? b = h'.get? b := fun b hb => g1 b (decide_eq_true hb)
    have ge : G'.get? e = none := g2 e (by simp)
    have old : ∀ b o, hp.get? b = some o → G'.get? b = some o := fun b o q => (gk b (Nat.ne_of_lt (Nat.lt_of_lt_of_le (Heap.lt_size q) M.new))).trans (M.keep b o q)
    have ob : ObjOk X.prog X.w (upd H1 d (.xd [(("value" : Str), v)])) G' d (.xd [(("value" : Str), v)]) :=
      ⟨_, hns.at (fun o q => (gk d M.dne).trans q), fun f => relO_value rv f⟩
    have J : Inv X pins σ (upd H1 d (.xd [(("value" : Str), v)])) ⟨G', g, dr, tk', os⟩ := I1.laid (t' := tk') old M.dbig ob
    refine ⟨e, oe, fv, ⟨G', g, dr, tk', os⟩, _, .ref C, some d, rfl, J, fun b o q => ?_, ge, hoe, ⟨hc, hd⟩, hdat, h1, ?_, rfl, I1.bare, raises_own T.exC T.tyC, q1 d (I1.hok.fresh M.dbig)⟩
    · by_cases hb : b = e
      · have q' : G'.get? b = some o := q
        rw [hb, ge] at q'; cases q'
      · exact (gk b hb).symm.trans q
    · rw [upd_ne (Ne.symm M.dne)]
      exact I1.hok.fresh M.new
/-- raise Low(e) -/
def tRaiseNoIndex (C : Addr) (W : WX) (ta : TA) : TS := fun _ σ H => tMkNoIndex C ta σ H fun cls d H' => W cls d σ H'
theorem ps_raiseNoIndex {a : Expr} {ta : TA} {W : WX} {p pos pos2 : Pos} {k : Nat} (hc : X.calm = true) (T : PySem.NoIndexX.NoIndexTxt X.K X.mg C fI) (hr : Room k X.A) (tk : Takes X W) (ha : PA X [a] ta) (hg : Gl X "NoIndex" := by rfl)
    (he : starEach (a :: []) X.env = (false, eval a X.env) :: starEach [] X.env := by rfl) (hpl : (backTo pos (starEach [] X.env)).any (·.1) = false := by rfl) :
    PS X (.Raise (some (.Call (.Name "NoIndex" p) [a] [] pos)) none pos2) (tRaiseNoIndex C W ta) := ps_raise hc tk (pmk_NoIndex T hr ha hg he hpl)
/-- low.by, low the exception that the suite holds (at a; its class cls, its dict d) -/
def tByNoIndex (C : Addr) (a : Addr) (cls : Value) (d : Option Addr) (te : TE) : TE := fun σ H Q => te σ H fun x H1 => x = .ref a ∧ cls = .ref C ∧ ∃ (dd : Addr) (v : V), d = some dd ∧ H1 dd = some (.xd [(("value" : Str), v)]) ∧ Q v H1
theorem pe_byNoIndex {a : Addr} {oe : Obj} {cls : Value} {d : Option Addr} {pn : List (Addr × Obj)} {e : Expr} {te : TE} {pos : Pos} (T : PySem.NoIndexX.NoIndexTxt X.K X.mg C fI) (hz : Zc cls d oe) (hf : ∃ vs, oe.data = .fields vs) (he : PE (X.suite a ((a, oe) :: pn)) e te)
    (hb : attributeBase e "value" X.env (eval e X.env) = eval e X.env := by rfl) :
    PE (X.suite a ((a, oe) :: pn)) (.Attribute e "value" pos) (tByNoIndex C a cls d te) := by
  refine ⟨fun pins s σ H Q I h => ?_⟩
  refine attr_of hb (thn (he.run pins s σ H _ I h) fun u s1 hh => ?_)
  obtain ⟨x, H1, I1, rx, ex, ec, dd, v, ed, ea, q⟩ := hh
  subst ex
  obtain rfl : u = Value.ref a := rx
  subst ec
  subst ed
  obtain ⟨ha, _⟩ := I1.pin (a, oe) (List.mem_append_left _ List.mem_cons_self)
  obtain ⟨vs, hd⟩ := hf
  have hx : ObjOk X.prog X.w H1 s1.heap dd (.xd [(("value" : Str), v)]) := I1.hok dd _ ea
  obtain ⟨mA, hns, hr⟩ := hx
  obtain ⟨od, ho, hl⟩ := lookIn_ns hns
  have l : List.lookup ("value" : Str) [(("value" : Str), v)] = some v := by simp [List.lookup]
  obtain ⟨u, hu, ru⟩ := RelO.some_of (v := v) (o := mA "value") (by rw [← l]; exact hr "value")
  have J : PySem.W.InstAt s1.heap a oe C (some od) := ⟨ha, hz.1, by unfold PySem.W.notCls; rw [hd] <;> rfl, by rw [hz.2]; exact ho⟩
  exact HandSPX.exc_get I1.kIn J T.ga T.gg T.exC (PySem.W.findObj_own T.hdC T.noN rfl (by rw [hl, hu])) (handed_of ru) ⟨v, H1, I1.tok _, ru, q⟩
end
end L2
namespace Lw
open PySem PySem.Spec PyProof.Rows L2 Gd
/-- an own error with no field of its own, as the top has written it -/
structure Zero (K : PySem.W.Frag) (mg : Str → Option Value) (x : Str) (C : Addr) : Prop where
  F : ExcBaseFacts "ValueError" "ValueError.__new__" "ValueError.__init__" [.type "ValueError", .type "Exception", .type "BaseException", .type "object"]
  q : PySem.W.excIn K C [.type "ValueError", .type "Exception", .type "BaseException", .type "object"] "ValueError.__new__" = true
  g : mg x = some (.ref C)
  k : PySem.W.keepIn K (.ref C) = true
  r : ∀ X : Cx, X.K = K → Raises X (.ref C)
  te : PySem.W.exmOne K (.ref C) (.ref C) = some true
end Lw
namespace Dl
open PySem PySem.Spec PyProof.Rows L2 Gd
section
variable {X : Cx} {G : Gx}
/-- x, y, z = a new list, data, data -/
def zPar3L (i j l : Nat) (ta tb tc : TD) : TSd := fun D E => ta E fun d n => tb ⟨E.ρ, n⟩ fun x m => tc ⟨E.ρ, m⟩ fun w o => match d with | .list ds => D.nx ⟨((E.ρ.set i (.own ds)).set j (.dat x)).set l (.dat w), o⟩ | _ => False
theorem z_par3L {i j l : Nat} {x y z : Str} {a b c : Expr} {ta tb tc : TD} {px py pz pt pos : Pos} {kt k2 pt2} (hc : X.calm = true) (hN : X.N.Nodup) (hi : X.N[i]? = some x) (hj : X.N[j]? = some y) (hl : X.N[l]? = some z) (hij : i ≠ j) (hil : i ≠ l) (hjl : j ≠ l)
    (hx : X.env.scope.names.lookup x = some .local) (hy : X.env.scope.names.lookup y = some .local) (hz : X.env.scope.names.lookup z = some .local) (ha : PL X G a ta) (hb : PD X G b tb) (hcc : PD X G c tc)
    (hw : swappedStores [.Tuple [.Name x px, .Name y py, .Name z pz] kt pt] (.Tuple [a, b, c] k2 pt2) X.env = pure (some [x, y, z]))
    (hs : swapsWithSole [.Tuple [.Name x px, .Name y py, .Name z pz] kt pt] (.Tuple [a, b, c] k2 pt2) pos.line X.env = pure false := by rfl)
    (hs1 : starEach [a, b, c] X.env = (false, eval a X.env) :: starEach [b, c] X.env := by rfl) (hs2 : starEach [b, c] X.env = (false, eval b X.env) :: starEach [c] X.env := by rfl) (hs3 : starEach [c] X.env = (false, eval c X.env) :: starEach [] X.env := by rfl) :
    PZ X G (.Assign [.Tuple [.Name x px, .Name y py, .Name z pz] kt pt] (.Tuple [a, b, c] k2 pt2) pos) (zPar3L i j l ta tb tc) := PS.wk (ps_par3 hc hN hi hj hl hij hil hjl hx hy hz (pa_cons ha (pa_cons hb (pa_cons hcc pa_nil hs3) hs2) hs1) hw hs) fun D σ H ⟨O, E, Dd, r, k, z⟩ => by
  refine ⟨O, E, _, r, ?_, z⟩
  rintro d n v2 H0 k0 i0 ⟨a, vs, ds, rfl, rfl, e3, e4, e5⟩ q0
  obtain ⟨nO, nS, hs0, L1, r2⟩ := r.newList k0 i0 e3 e4
  refine ⟨_, _, _, r2, ?_, q0⟩
  rintro x m v H1 k1 i1 rv q1
  have r3 := r2.step k1 i1
  have e4' := k1 _ _ e4 nS
  have e5' := e5.later (r2.lt k1)
  refine ⟨_, _, _, r3, ?_, q1⟩
  rintro w o v3 H2 k2 i2 rv3 q2
  have r4 := r3.step k2 i2
  have e4'' := k2 _ _ e4' nS
  have e5'' := e5'.later (r3.lt k2)
  have r5 := r4.setOwn (i := i) e4'' hs0 (.inr rfl) e5'' (fun j' dj nj ej y => by
    obtain ⟨b, ws, y1, y2, y3, _⟩ := r.own j' dj ej
    rw [y] at y1
    cases y1
    exact nO y3)
  have r6 := (r5.set (i := j) (Dv.later (r3.lt k2) rv)).set (i := l) rv3
  exact ⟨_, _, _, rfl, k.nx _ _ H2 _ ((L1.trans (r2.lt k1)).trans (r3.lt k2)) r6 q2⟩
end
end Dl
namespace Lw
open PySem PySem.Spec PyProof.Rows L2 Gd Dl Sh
local macro_rules | `(tactic| walk_at "go") => `(tactic| repeat (refine opt_of rfl ?_))
local macro_rules | `(tactic| walk_at "en") => `(tactic| dsimp only [dBor, dVar, setsD, List.set_cons_zero, List.set_cons_succ, List.getElem?_cons_zero, List.getElem?_cons_succ])
def C_shape_at (cNI : Addr) : ConX := fun _ as n Q Qe => ∃ (m : Nat) (d : PyData), as = [.d (.int m), .d d] ∧ 1 ≤ m ∧ m ≤ 60 ∧ (∀ (R : Int) (u : List Int), d = .int R → satGo m m [] R = some u → Q (tupI u) n) ∧ (plcD (cat m) d = false → Qe cNI [(("value" : Str), d)] n)
section
variable {P : Program} {w : World} {K : PySem.W.Frag} {mg : Str → Option Value} {base : Heap}
abbrev s_shape_at : Stmt := topS 15
abbrev N_shape_at : List Str := ["n", "index", "table", "shape", "rest", "place", "counts", "distances", "chosen"]
theorem sc_shape_at : FnScope N_shape_at ["n", "index"] (defScope s_shape_at) := ⟨rfl, rfl, rfl, by decide +kernel, rfl, by decide +kernel, by decide +kernel⟩
-- slots: 0 n, 1 index, 2 table, 3 shape, 4 rest, 5 place, 6 counts, 7 distances, 8 chosen
theorem ok_shape_at {f : Addr} {fd : FuncData} {k : Nat} {c_NoIndex i_NoIndex : Addr} {f_rises_after : Addr} {d_rises_after : FuncData} {f_distances_at : Addr} {d_distances_at : FuncData} {f_endings : Addr} {d_endings : FuncData} {f_is_place : Addr} {d_is_place : FuncData} {f_count_shapes : Addr} {d_count_shapes : FuncData} (F : Fun K "shape_at" "shape_at" s_shape_at f fd) (c_rises_after : Cd P w K mg base k "rises_after" f_rises_after d_rises_after ["distances", "chosen"] C_rises_after) (c_distances_at : CdN P w K mg base k "distances_at" f_distances_at d_distances_at ["shape", "place"] C_distances_atN) (c_endings : Cd P w K mg base k "endings" f_endings d_endings ["n"] C_endings) (c_is_place : Cd P w K mg base k "is_place" f_is_place d_is_place ["many", "value"] C_is_place) (c_count_shapes : Cd P w K mg base k "count_shapes" f_count_shapes d_count_shapes ["n"] C_count_shapes) (m_range : mg "range" = none) (m_tuple : mg "tuple" = none) (T_NoIndex : PySem.NoIndexX.NoIndexTxt K mg c_NoIndex i_NoIndex) : FnOk P w K mg base (L2.CX P w) (k + 1) f fd ["n", "index"] (spDX (C_shape_at c_NoIndex) 2) := by
  refine okDX F sc_shape_at (fun G cdv A fr s H E W hr tk =>
        (zxs_cons (zx_if (pq_not (pq_val (pd_call c_is_place.G hr c_is_place.g c_is_place.kp c_is_place.b (pr_cons (pd_call c_count_shapes.G hr c_count_shapes.g c_count_shapes.kp c_count_shapes.b (pr_cons (pd_var (pv 0)) pr_nil)) (pr_cons (pd_var (pv 1)) pr_nil)))))
          (zxs_one (zx_raise1 (ps_raiseNoIndex rfl T_NoIndex hr tk (pr_cons (pd_var (pv 1)) pr_nil))))
          (zxs_of zs_nil))
        (zxs_cons (zx_of (z_set (i := 2) sc_shape_at.nd rfl (by first | exact .inl rfl | exact .inr rfl) (pd_call c_endings.G hr c_endings.g c_endings.kp c_endings.b (pr_cons (pd_var (pv 0)) pr_nil))))
        (zxs_cons (zx_of (z_own (i := 3) sc_shape_at.nd rfl (by first | exact .inl rfl | exact .inr rfl) (pl_lst pr_nil)))
        (zxs_cons (zx_of (z_set (i := 4) sc_shape_at.nd rfl (by first | exact .inl rfl | exact .inr rfl) (pd_var (pv 1))))
        (zxs_cons (zx_of (z_for (tg := (.nm 5)) (passes_of rfl) rfl (j_range1 (pd_var (pv 0)) m_range) (pg_name (i := 5) sc_shape_at.nd rfl (by first | exact .inl rfl | exact .inr rfl))
          (zs_cons (z_set (i := 6) sc_shape_at.nd rfl (by first | exact .inl rfl | exact .inr rfl) (pd_ix (pb_var (pv 2)) (PB.of (pd_sub (PB.of (pd_sub (pb_var (pv 0)) (PB.of pd_int))) (pb_var (pv 5)))) (fun _ _ => rfl)))
          (zs_cons (z_set (i := 7) sc_shape_at.nd rfl (by first | exact .inl rfl | exact .inr rfl) (PD.ofL (pl_callN c_distances_at.G hr c_distances_at.g c_distances_at.kp c_distances_at.b (pv 3) (pd_var (pv 5)))))
          (zs_cons (z_set (i := 8) sc_shape_at.nd rfl (by first | exact .inl rfl | exact .inr rfl) pd_int)
          (zs_cons (z_while (passes_of rfl) (pq_cmp op_ge l_ge (pb_var (pv 4)) (PB.of (pd_ix (pb_var (pv 6)) (PB.of (pd_call c_rises_after.G hr c_rises_after.g c_rises_after.kp c_rises_after.b (pr_cons (pd_var (pv 7)) (pr_cons (pd_var (pv 8)) pr_nil)))) (fun _ _ => rfl))) (nomark _))
            (zs_cons (z_aug (i := 4) sc_shape_at.nd rfl (by first | exact .inl rfl | exact .inr rfl) (pd_ix (pb_var (pv 6)) (PB.of (pd_call c_rises_after.G hr c_rises_after.g c_rises_after.kp c_rises_after.b (pr_cons (pd_var (pv 7)) (pr_cons (pd_var (pv 8)) pr_nil)))) (fun _ _ => rfl)) ip_sub)
            (zs_one (z_aug (i := 8) sc_shape_at.nd rfl (by first | exact .inl rfl | exact .inr rfl) pd_int ip_add))))
          (zs_one (z_app (pv 3) (pd_ix (pb_var (pv 7)) (pb_var (pv 8)) (fun _ _ => rfl))))))))))
        (zxs_one (zx_of (z_ret (PB.of (pd_tuple (pb_var (pv 3)) m_tuple))))))))))) (fun G as n Q Qe hl hc => ?_)
  obtain ⟨m, d, rfl, m1, m7, q1, q2⟩ := hc
  walk_at "go"; try dsimp only [List.set_cons_zero, List.set_cons_succ]
  walk_at "go"; refine And.intro rfl ⟨m, rfl, by omega, by omega, ?_⟩
  walk_at "go"; try dsimp only [List.set_cons_zero, List.set_cons_succ]
  walk_at "go"; refine And.intro rfl ⟨_, d, rfl, ?_⟩
  cases e : plcD (cat m) d with
  | false =>
    walk_at "go"; try dsimp only [List.set_cons_zero, List.set_cons_succ]
    walk_at "go"; exact ⟨_, rfl, q2 e⟩
  | true =>
    obtain ⟨v, rfl, hv0, hv1⟩ : ∃ v : Int, d = .int v ∧ 0 ≤ v ∧ v < cat m := by
      cases d with
      | int v =>
        have h : 0 ≤ v ∧ v < cat m := of_decide_eq_true e
        exact ⟨v, rfl, h.1, h.2⟩
      | _ => cases e
    obtain ⟨res, run, _, _, _⟩ := sat_all m1 m7 hv0 hv1
    have q := q1 v res rfl run
    walk_at "go"; try dsimp only [List.set_cons_zero, List.set_cons_succ]
    walk_at "go"; refine And.intro rfl ⟨m, rfl, by omega, ?_⟩
    walk_at "go"; refine And.intro (rfl) ?_
    walk_at "go"; refine And.intro (dec2 (by omega)) ?_
    walk_at "go"; refine for_Z _ (fun p E => ∃ (ns : List Int) (r : Int) (y5 y6 y7 y8 : Sl), E = ⟨[.dat (.int m), .dat (.int v), .dat (.list ((List.range (m + 1)).map fun l => lstI (rowAt m l))), .own (ns.map dI), .dat (.int r), y5, y6, y7, y8], n⟩ ∧ ns.length = p ∧ satGo m (m - p) ns r = some res) ⟨[], v, _, _, _, _, rfl, rfl, by rw [Nat.sub_zero]; exact run⟩ (fun p E D' hp h nx ct bk rt => ?_) (fun E h => ?_)
    · obtain ⟨ns, r, y5, y6, y7, y8, rfl, ln, hs⟩ := h
      have hp : p < m := by rw [Int.toNat_natCast] at hp; exact hp
      obtain ⟨k', hk⟩ : ∃ k', m - p = k' + 1 := ⟨m - p - 1, by omega⟩
      rw [hk, satGo, show m - (k' + 1) = p by omega] at hs
      by_cases hok : (List.range p).all (okB (ns.map dI)) = true
      · rw [if_pos hok] at hs
        have hok' : ∀ j, j < p → okB (ns.map dI) j = true := fun j hj => List.all_eq_true.mp hok j (List.mem_range.mpr hj)
        have lr := rowAt_length m (m - 1 - p) (by omega)
        generalize hcs : rowAt m (m - 1 - p) = cs at hs lr
        generalize hdl : dsL (ns.map dI) p = dl at hs
        cases hst : stepC cs dl.length 70 0 r with
        | none =>
          rw [hst] at hs
          cases hs
        | some cr =>
          obtain ⟨c1, r1⟩ := cr
          rw [hst] at hs
          have hs : satGo m k' (ns ++ [en dl c1]) r1 = some res := hs
          walk_at "go"; try dsimp only [List.set_cons_zero, List.set_cons_succ]
          walk_at "go"; refine opt_of (ix_map (j := m - 1 - p) (by omega) (by omega)) ?_
          rw [hcs]
          walk_at "go"; try dsimp only [List.set_cons_zero, List.set_cons_succ]
          walk_at "go"; refine ⟨ns.map dI, p, rfl, by rw [List.length_map]; omega, by omega, hok', ⟨_, rfl, ?_⟩⟩
          rw [hdl]
          walk_at "go"; try dsimp only [List.set_cons_zero, List.set_cons_succ]
          refine ⟨fun f E => ∃ (c : Nat) (r' : Int), stepC cs dl.length f c r' = some (c1, r1) ∧ E = ⟨[.dat (.int m), .dat (.int v), .dat (.list ((List.range (m + 1)).map fun l => lstI (rowAt m l))), .own (ns.map dI), .dat (.int r'), .dat (.int (p : Nat)), .dat (lstI cs), .dat (lstI dl), .dat (.int (c : Nat))], n⟩, ⟨70, 0, r, hst, rfl⟩, ?_⟩
          rintro f E ⟨c, r', hst', rfl⟩
          cases f with
          | zero => cases hst'
          | succ f =>
            rw [stepC] at hst'
            by_cases hb : c < dl.length ∧ rsa dl.length c < cs.length
            · rw [if_pos hb] at hst'
              walk_at "go"; try dsimp only [List.set_cons_zero, List.set_cons_succ]
              walk_at "go"; refine And.intro rfl ⟨dl, c, rfl, by omega, ?_⟩
              walk_at "go"; refine opt_of (ix_rowL (ns := cs) (i := rsa dl.length c) rfl (by omega)) ?_
              walk_at "go"; try dsimp only [List.set_cons_zero, List.set_cons_succ]
              by_cases z : en cs (rsa dl.length c) ≤ r'
              · rw [decide_eq_true z]
                rw [if_pos z] at hst'
                walk_at "go"; try dsimp only [List.set_cons_zero, List.set_cons_succ]
                walk_at "go"; refine And.intro rfl ⟨dl, c, rfl, by omega, ?_⟩
                walk_at "go"; refine opt_of (ix_rowL (ns := cs) (i := rsa dl.length c) rfl (by omega)) ?_
                walk_at "go"; try dsimp only [List.set_cons_zero, List.set_cons_succ]
                exact ⟨f, by omega, c + 1, _, hst', rfl⟩
              · rw [decide_eq_false z]
                rw [if_neg z] at hst'
                obtain ⟨rfl, rfl⟩ := Prod.mk.inj (Option.some.inj hst')
                walk_at "go"; try dsimp only [List.set_cons_zero, List.set_cons_succ]
                walk_at "go"; refine opt_of (ix_rowL (ns := dl) (i := c) rfl (by omega)) ?_
                walk_at "go"; refine And.intro ((by rw [List.length_map]; omega)) ?_
                walk_at "go"; exact nx _ ⟨ns ++ [en dl c], r', _, _, _, _, by rw [List.map_append]; rfl, by simp [ln], by rw [show m - (p + 1) = k' by omega]; exact hs⟩
            · rw [if_neg hb] at hst'
              cases hst'
      · rw [if_neg hok] at hs
        cases hs
    · obtain ⟨ns, r, y5, y6, y7, y8, rfl, ln, hs⟩ := h
      rw [Int.toNat_natCast, Nat.sub_self, satGo] at hs
      obtain rfl := Option.some.inj hs
      walk_at "go"; exact q
end
end Lw
namespace Lw
open PySem PySem.Spec PyProof.Rows L2 Gd Dl Sh
local macro_rules | `(tactic| walk_at "go") => `(tactic| repeat (refine opt_of rfl ?_))
local macro_rules | `(tactic| walk_at "en") => `(tactic| dsimp only [dBor, dVar, setsD, List.set_cons_zero, List.set_cons_succ, List.getElem?_cons_zero, List.getElem?_cons_succ])
def C_shape_index (cNS : Addr) : ConX := fun _ as n Q Qe => ∃ ds : List PyData, as = [.d (.tuple ds)] ∧ isShB 60 (.tuple ds) = true ∧ Q (.int (sidxD ds)) n
theorem isSh_el {m : Nat} {d : PyData} (h : isShB m d = true) : ∃ ds, d = .tuple ds ∧ 1 ≤ ds.length ∧ ds.length ≤ m ∧ ∀ j, j < ds.length → okB ds j = true := by
  cases d with
  | tuple ds =>
    have h' : (decide (1 ≤ ds.length) && decide (ds.length ≤ m) && (List.range ds.length).all (okB ds)) = true := h
    simp only [Bool.and_eq_true, decide_eq_true_eq, List.all_eq_true, List.mem_range] at h'
    exact ⟨ds, rfl, h'.1.1, h'.1.2, h'.2⟩
  | _ => cases h
section
variable {P : Program} {w : World} {K : PySem.W.Frag} {mg : Str → Option Value} {base : Heap}
abbrev s_shape_index : Stmt := topS 16
abbrev N_shape_index : List Str := ["value", "table", "index", "place", "distance", "counts", "distances", "lower"]
theorem sc_shape_index : FnScope N_shape_index ["value"] (defScope s_shape_index) := ⟨rfl, rfl, rfl, by decide +kernel, rfl, by decide +kernel, by decide +kernel⟩
-- slots: 0 value, 1 table, 2 index, 3 place, 4 distance, 5 counts, 6 distances, 7 lower
theorem ok_shape_index {f : Addr} {fd : FuncData} {k : Nat} {c_NotShape : Addr} {f_rises_after : Addr} {d_rises_after : FuncData} {f_distances_at : Addr} {d_distances_at : FuncData} {f_endings : Addr} {d_endings : FuncData} {f_is_shape_up_to : Addr} {d_is_shape_up_to : FuncData} (F : Fun K "shape_index" "shape_index" s_shape_index f fd) (c_rises_after : Cd P w K mg base k "rises_after" f_rises_after d_rises_after ["distances", "chosen"] C_rises_after) (c_distances_at : Cd P w K mg base k "distances_at" f_distances_at d_distances_at ["shape", "place"] C_distances_at) (c_endings : Cd P w K mg base k "endings" f_endings d_endings ["n"] C_endings) (c_is_shape_up_to : Cd P w K mg base k "is_shape_up_to" f_is_shape_up_to d_is_shape_up_to ["most", "value"] C_is_shape_up_to) (m_enumerate : mg "enumerate" = none) (m_len : mg "len" = none) (m_range : mg "range" = none) (m_sum : mg "sum" = none) (g_MAX_COUNT : mg "MAX_COUNT" = some (.int G_MAX_COUNT t_MAX_COUNT)) (Q_NotShape : Zero K mg "NotShape" c_NotShape) : FnOk P w K mg base (L2.CX P w) (k + 1) f fd ["value"] (spDX (C_shape_index c_NotShape) 1) := by
  refine okDX F sc_shape_index (fun G cdv A fr s H E W hr tk =>
        (zxs_cons (zx_if (pq_not (pq_val (pd_call c_is_shape_up_to.G hr c_is_shape_up_to.g c_is_shape_up_to.kp c_is_shape_up_to.b (pr_cons (pd_c (pe_glob (v := .int G_MAX_COUNT) rfl g_MAX_COUNT ⟨_, rfl⟩) fun _ _ => .int _) (pr_cons (pd_var (pv 0)) pr_nil)))))
          (zxs_one (zx_raise0 (ps_raise rfl tk (pmk0 Q_NotShape.F Q_NotShape.q Q_NotShape.g Q_NotShape.k (Q_NotShape.r _ rfl) rfl))))
          (zxs_of zs_nil))
        (zxs_cons (zx_of (z_set (i := 1) sc_shape_index.nd rfl (by first | exact .inl rfl | exact .inr rfl) (pd_call c_endings.G hr c_endings.g c_endings.kp c_endings.b (pr_cons (pd_len (pb_var (pv 0)) m_len) pr_nil))))
        (zxs_cons (zx_of (z_set (i := 2) sc_shape_index.nd rfl (by first | exact .inl rfl | exact .inr rfl) pd_int))
        (zxs_cons (zx_of (z_for (tg := (.tp [3, 4])) (passes_of rfl) rfl (j_enumT (pd_var (pv 0)) m_enumerate) (pg_tup rfl (pgs_cons (pg_name (i := 3) sc_shape_index.nd rfl (by first | exact .inl rfl | exact .inr rfl)) (pgs_cons (pg_name (i := 4) sc_shape_index.nd rfl (by first | exact .inl rfl | exact .inr rfl)) pgs_nil)))
          (zs_cons (z_set (i := 5) sc_shape_index.nd rfl (by first | exact .inl rfl | exact .inr rfl) (pd_ix (pb_var (pv 1)) (PB.of (pd_sub (PB.of (pd_sub (PB.of (pd_len (pb_var (pv 0)) m_len)) (PB.of pd_int))) (pb_var (pv 3)))) (fun _ _ => rfl)))
          (zs_cons (z_set (i := 6) sc_shape_index.nd rfl (by first | exact .inl rfl | exact .inr rfl) (pd_call c_distances_at.G hr c_distances_at.g c_distances_at.kp c_distances_at.b (pr_cons (pd_var (pv 0)) (pr_cons (pd_var (pv 3)) pr_nil))))
          (zs_one (z_aug (i := 2) sc_shape_index.nd rfl (by first | exact .inl rfl | exact .inr rfl) (pd_sumL rfl (PB.of (PD.ofL (pl_lc (own := [("lower", 7)]) (tg := (.nm 7)) rfl sc_shape_index.nd (j_range1 (pd_index (pb_var (pv 6)) (pb_var (pv 4))) m_range) (blkOk_by (N := N_shape_index) (sc := defScope s_shape_index) (by decide +kernel)) (fun _ _ _ _ _ => (pg_name (i := 7) sc_shape_index.nd rfl (by first | exact .inl rfl | exact .inr rfl))) (fun _ _ _ _ _ => ts_nil) (fun _ _ _ _ _ => (pd_ix (pb_var (pv 5)) (PB.of (pd_call c_rises_after.G hr c_rises_after.g c_rises_after.kp c_rises_after.b (pr_cons (pd_var (pv 6)) (pr_cons (pd_var (pv 7)) pr_nil)))) (fun _ _ => rfl))) (by simp [tgIn])))) m_sum) ip_add))))))
        (zxs_one (zx_of (z_ret (pb_var (pv 2)))))))))) (fun G as n Q Qe hl hc => ?_)
  obtain ⟨ds, rfl, e, q⟩ := hc
  walk_at "go"; try dsimp only [List.set_cons_zero, List.set_cons_succ]
  walk_at "go"; refine And.intro rfl ⟨60, _, rfl, by decide, ?_⟩
  obtain ⟨ds', e0, d1, d2, ok⟩ := isSh_el e
  cases e0
  rw [e]
  walk_at "go"; try dsimp only [List.set_cons_zero, List.set_cons_succ]
  walk_at "go"; refine And.intro rfl ⟨ds.length, rfl, d2, ?_⟩
  walk_at "go"; try dsimp only [List.set_cons_zero, List.set_cons_succ]
  obtain ⟨g, hg⟩ : ∃ g : Nat → Int, g = fun i => ((List.range ((dsL ds i).idxOf (ev ds i))).map fun j => en (rowAt ds.length (ds.length - 1 - i)) (rsa (dsL ds i).length j)).sum := ⟨_, rfl⟩
  walk_at "go"; refine for_L _ (fun i E => ∃ (y3 y4 y5 y6 : Sl), E = ⟨[.dat (.tuple ds), .dat (.list ((List.range (ds.length + 1)).map fun l => lstI (rowAt ds.length l))), .dat (.int ((List.range i).map g).sum), y3, y4, y5, y6, .no], n⟩) ⟨_, _, _, _, rfl⟩ (fun i x E D' hd h nx ct bk rt => ?_) (fun E h => ?_)
  · obtain ⟨y3, y4, y5, y6, rfl⟩ := h
    rw [enumD_get, Option.map_eq_some_iff] at hd
    obtain ⟨x, hx, rfl⟩ := hd
    obtain ⟨hi, ex⟩ := List.getElem?_eq_some_iff.mp hx
    have eg : ds.getD i .none = x := by rw [List.getD_eq_getElem?_getD, hx]; rfl
    obtain ⟨o1, o2, o3, o4⟩ := okB_el (ok i hi)
    obtain rfl : x = .int (ev ds i) := eg.symm.trans o2
    have hm : ev ds i ∈ dsL ds i := by
      have := okB_iff eg
      rw [ok i hi] at this
      exact (of_decide_eq_true this.symm).1
    have ll := dsL_len (ds := ds) (p := i) (fun j hj => ok j (by omega))
    have hix := List.idxOf_lt_length_of_mem hm
    have e1 : gIdx (lstI (dsL ds i)) (.int (ev ds i)) = some (.int ((dsL ds i).idxOf (ev ds i) : Nat)) := by
      show (intsOf ((dsL ds i).map dI)).bind _ = _
      rw [intsOf_map]
      show (if ev ds i ∈ dsL ds i then some (PyData.int ((dsL ds i).idxOf (ev ds i) : Nat)) else none) = _
      rw [if_pos hm]
    walk_at "go"
    walk_at "go"; refine opt_of (ix_map (j := ds.length - 1 - i) (by omega) (by omega)) ?_
    walk_at "go"
    walk_at "go"; refine And.intro rfl ⟨ds, i, rfl, by omega, by omega, (fun j hj => ok j (by omega)), ?_⟩
    walk_at "go"; refine opt_of (e1) ?_
    walk_at "go"; refine And.intro (dec2 (by omega)) ?_
    have gi : g i = ((List.range ((dsL ds i).idxOf (ev ds i))).map fun j => en (rowAt ds.length (ds.length - 1 - i)) (rsa (dsL ds i).length j)).sum := by rw [hg]
    generalize hz : (dsL ds i).idxOf (ev ds i) = z at hix gi
    have rl := rowAt_length ds.length (ds.length - 1 - i) (by omega)
    have tb : ∀ j, j < z → rsa (dsL ds i).length j ≤ i + 1 := fun j hj => by unfold rsa; split <;> omega
    walk_at "go"; refine lc_Z _ (fun _ => true) (fun j => .int (en (rowAt ds.length (ds.length - 1 - i)) (rsa (dsL ds i).length j))) (fun j hj => ?_) (by omega) ?_
    · have hj' : j < z := by omega
      have := tb j hj'
      refine ⟨_, rfl, fun n R r => r, fun _ n R r => ?_⟩
      walk_at "go"
      walk_at "go"; refine And.intro rfl ⟨dsL ds i, j, rfl, by omega, ?_⟩
      walk_at "go"; refine opt_of (ix_rowL (ns := rowAt ds.length (ds.length - 1 - i)) (i := rsa (dsL ds i).length j) rfl (by omega)) ?_
      walk_at "go"; exact r
    rw [List.filter_eq_self.mpr (fun _ _ => rfl), Int.toNat_natCast]
    obtain ⟨L, hL⟩ : ∃ L : List Int, L = (List.range z).map fun j => en (rowAt ds.length (ds.length - 1 - i)) (rsa (dsL ds i).length j) := ⟨_, rfl⟩
    have e2 : (List.range z).map (fun j => PyData.int (en (rowAt ds.length (ds.length - 1 - i)) (rsa (dsL ds i).length j))) = L.map dI := by
      rw [hL, List.map_map]
      rfl
    rw [e2]
    rw [← hL] at gi
    have e3 : ((List.range (i + 1)).map g).sum = ((List.range i).map g).sum + L.sum := by
      rw [List.range_succ, List.map_append, List.sum_append, ← gi]
      simp
    walk_at "go"; refine opt_of (gSumL_of) ?_
    walk_at "go"; refine nx _ ⟨_, _, _, _, by rw [e3]; rfl⟩
  · obtain ⟨y3, y4, y5, y6, rfl⟩ := h
    have hl : (enumD ds).length = ds.length := enumFrom_length ds 0
    rw [hl, hg]
    walk_at "go"; exact q
end
end Lw
namespace Lw
open PySem PySem.Spec PyProof.Rows L2 Gd Dl Sh
local macro_rules | `(tactic| walk_at "go") => `(tactic| repeat (refine opt_of rfl ?_))
local macro_rules | `(tactic| walk_at "en") => `(tactic| dsimp only [dBor, dVar, setsD, List.set_cons_zero, List.set_cons_succ, List.getElem?_cons_zero, List.getElem?_cons_succ])
def C__law_same (j : Nat) : Con := fun _ as n Q => ∃ d : PyData, as = [.d d, .d d] ∧ 0 < j ∧ ((∃ ds, d = .list ds ∧ Fit 100000 50 d) ∨ (∃ i, d = .int i) ∨ (∃ ns, d = tupI ns ∧ ns.length ≤ 1000 ∧ 1 < j)) ∧ Q (.bool true) n
theorem no__law_same {F : Fr} {as : List Ar} {n : Nat} {Q : PyData → Nat → Prop} (h : C__law_same 0 F as n Q) : False := by
  obtain ⟨_, _, h, _⟩ := h
  omega
theorem zip_self : ∀ ds : List PyData, zipD ds ds = ds.map fun d => .tuple [d, d]
  | [] => rfl
  | d :: ds => by rw [zipD, zip_self ds]; rfl
theorem lc_zs {tg : Tg} {tt : TDt} {te : TD} {ρ0 : List Sl} {Q : PyData → Nat → Prop} (ns : List Int) (f : Int → PyData) {n : Nat}
    (h : ∀ x ∈ ns, ∃ ρ, tg.put (.tuple [.int x, .int x]) ρ0 = some ρ ∧ (∀ (n : Nat) (R : Bool → Nat → Prop), R true n → tt ⟨ρ, n⟩ R) ∧ (∀ (n : Nat) (R : PyData → Nat → Prop), R (f x) n → te ⟨ρ, n⟩ R)) (hl : ns.length ≤ 100000) (q : Q (.list (ns.map f)) n) : dLcL tg tt te ρ0 Q (zipD (ns.map dI) (ns.map dI)) [] n := by
  rw [zip_self, List.map_map]
  exact lc_M0 ns _ f h hl q
def C__law_is_int : Con := fun _ as n Q => ∃ (d : PyData) (h : Int), as = [.d d, .d (.int 0), .d (.int h)] ∧ Q (.bool (plcD (h + 1) d)) n
/-- the open places before p, lowest first -/
def opn (ds : List PyData) (p : Nat) : List Int := if 0 < p then ((chn (ev ds) p (p - 1)).reverse).map fun t : Nat => (t : Int) else []
theorem opn_step {ds : List PyData} {p : Nat} (hok : ∀ j, j ≤ p → okB ds j = true) : ((opn ds p).filter fun k => decide (0 < ev ds p) && decide (k ≤ (p : Int) - ev ds p)) ++ [(p : Int)] = opn ds (p + 1) := by
  have le : ∀ u, u ≤ p → ev ds u ≤ u := fun u hu => (okB_el (hok u hu)).2.2.2
  show _ = if 0 < p + 1 then ((chn (ev ds) (p + 1) p).reverse).map (fun t : Nat => (t : Int)) else []
  rw [if_pos (Nat.succ_pos _), chn]
  by_cases z : 0 < ev ds p
  · have lp := le p (Nat.le_refl _)
    have p0 : 0 < p := by omega
    rw [if_pos z, List.reverse_cons, List.map_append]
    congr 1
    unfold opn
    rw [if_pos p0, List.filter_map, List.filter_reverse]
    congr 2
    have ob := okB_iff (okB_el (hok p (Nat.le_refl _))).2.1
    rw [hok p (Nat.le_refl _)] at ob
    have mem := (of_decide_eq_true ob.symm).1
    unfold dsL at mem
    rw [if_pos p0] at mem
    rcases List.mem_cons.mp mem with y | mem
    · omega
    obtain ⟨t, ht, et⟩ := List.mem_map.mp mem
    have tl := chn_le ht
    have e1 : p - (ev ds p).toNat = t := by omega
    rw [e1, ← chn_cut (e := ev ds) p t (by omega) p (p - 1) (by omega) (fun u hu => le u (by omega)) ht]
    refine List.filter_congr fun x hx => ?_
    show (decide (0 < ev ds p) && decide ((x : Int) ≤ (p : Int) - ev ds p)) = decide (x ≤ t)
    rw [decide_eq_true z, Bool.true_and]
    exact decide_eq_decide.mpr ⟨fun h => by omega, fun h => by omega⟩
  · rw [if_neg z, List.filter_eq_nil_iff.mpr (fun x _ => by simp; omega)]
    rfl

theorem opn_app {a b : List PyData} {p : Nat} (h : p ≤ a.length) : opn (a ++ b) p = opn a p := by
  unfold opn
  split
  · rw [chn_congr fun i hi => ev_app (by omega)]
  · rfl
theorem opn_asc {sh : List Int} (ok : okA sh) : (opn (sh.map dI) sh.length).Pairwise (· < ·) := by
  unfold opn
  split
  · rw [List.pairwise_map, List.pairwise_reverse]
    exact List.Pairwise.imp (fun {a b} (h : a > b) => by omega) (chn_desc sh.length (sh.length - 1) fun i hi => okA_le ok (by omega))
  · exact .nil
theorem opn_dsI {sh : List Int} {x : Int} (hx : x ∈ opn (sh.map dI) sh.length) : (sh.length : Int) - x ∈ dsI sh ∧ 0 ≤ x ∧ x < sh.length := by
  unfold opn at hx
  split at hx
  · rename_i hp
    obtain ⟨t, ht, rfl⟩ := List.mem_map.mp hx
    have ht := List.mem_reverse.mp ht
    have := chn_le ht
    refine ⟨?_, by omega, by omega⟩
    unfold dsI dsL
    rw [if_pos hp]
    exact List.mem_cons_of_mem _ (List.mem_map.mpr ⟨t, ht, rfl⟩)
  · cases hx
theorem ev_snoc {sh : List Int} {x : Int} : ev ((sh ++ [x]).map dI) sh.length = x := by
  unfold ev
  rw [List.map_append, List.getD_eq_getElem?_getD, List.getElem?_append_right (by rw [List.length_map]; exact Nat.le_refl _), List.length_map, Nat.sub_self]
  rfl
theorem opn_snoc {sh : List Int} {x : Int} (ok : okA sh) (hx : x ∈ dsI sh) : opn ((sh ++ [x]).map dI) (sh.length + 1) = ((opn (sh.map dI) sh.length).filter fun k => decide (0 < x) && decide (k ≤ (sh.length : Int) - x)) ++ [(sh.length : Int)] := by
  have ok2 := okA_snoc ok hx
  rw [← opn_step (fun j hj => ok2 j (by rw [List.length_append]; show j < sh.length + 1; omega)), ev_snoc, List.map_append, opn_app (by rw [List.length_map]; exact Nat.le_refl _)]
theorem opn_snoc0 {sh : List Int} (ok : okA sh) : opn ((sh ++ [0]).map dI) (sh.length + 1) = [(sh.length : Int)] := by
  rw [opn_snoc ok (by unfold dsI dsL; exact List.mem_cons_self), List.filter_eq_nil_iff.mpr (fun k _ => by simp)]
  rfl
theorem asc_take {l : List Int} (p : l.Pairwise (· < ·)) {j : Nat} {a : List Int} {x : Int} (h : l.take j = a ++ [x]) : (l.filter fun k => decide (k ≤ x)) = a ++ [x] := by
  have e : l = (a ++ [x]) ++ l.drop j := by rw [← h, List.take_append_drop]
  rw [e] at p
  obtain ⟨p1, p2, p3⟩ := List.pairwise_append.mp p
  obtain ⟨q1, q2, q3⟩ := List.pairwise_append.mp p1
  rw [e, List.filter_append, List.filter_eq_self.mpr, List.filter_eq_nil_iff.mpr, List.append_nil]
  · intro k hk
    have := p3 x (List.mem_append_right _ List.mem_cons_self) k hk
    simp
    omega
  · intro k hk
    rcases List.mem_append.mp hk with hk | hk
    · have := q3 k hk x List.mem_cons_self
      exact decide_eq_true (by omega)
    · rw [List.mem_singleton.mp hk]
      exact decide_eq_true (Int.le_refl _)
theorem opn_snocx {sh a : List Int} {x : Int} {j : Nat} (ok : okA sh) (h : (opn (sh.map dI) sh.length).take j = a ++ [x]) : ((sh.length : Int) - x ∈ dsI sh) ∧ opn ((sh ++ [(sh.length : Int) - x]).map dI) (sh.length + 1) = (a ++ [x]) ++ [(sh.length : Int)] := by
  have hx : x ∈ opn (sh.map dI) sh.length := List.mem_of_mem_take (by rw [h]; simp)
  obtain ⟨h1, h2, h3⟩ := opn_dsI hx
  refine ⟨h1, ?_⟩
  rw [opn_snoc ok h1, ← asc_take (opn_asc ok) h]
  congr 1
  refine List.filter_congr fun k _ => ?_
  rw [decide_eq_true (show 0 < (sh.length : Int) - x by omega), Bool.true_and]
  exact decide_eq_decide.mpr ⟨fun h => by omega, fun h => by omega⟩
theorem opn_len2 {sh : List Int} (ok : okA sh) : (opn (sh.map dI) sh.length).length ≤ sh.length := by
  unfold opn
  split
  · rw [List.length_map, List.length_reverse]
    have := chn_len2 (e := ev (sh.map dI)) sh.length (sh.length - 1) (fun t ht => okA_le ok (by omega))
    omega
  · simp
theorem ix_llast {ds : List PyData} {x : PyData} : gIx (.list (ds ++ [x])) (.int (-1)) = some x := by
  show atI (ds ++ [x]) (-1) = _
  have : ixN (ds ++ [x]).length (-1) = some ds.length := by
    unfold ixN
    rw [if_neg (by decide), List.length_append, List.length_singleton, if_pos (by omega)]
    congr 1
    omega
  unfold atI
  rw [this]
  show (ds ++ [x])[ds.length]? = _
  simp
def C__law_long_shape : Con := fun F as n Q => ∃ m : Nat, as = [.c F.s, .d (.int m)] ∧ IsS F ∧ n < 900000 ∧ 1 ≤ m ∧ m ≤ 60 ∧ ∀ (ns : List Int) n', ns.length = m → okA ns → n' ≤ n + 1 + 2 * m → Q (tupI ns) n'
section
variable {P : Program} {w : World} {K : PySem.W.Frag} {mg : Str → Option Value} {base : Heap}
abbrev s__law_same : Stmt := topS 20
abbrev N__law_same : List Str := ["_law_found", "_law_expected", "_law_one", "_law_other"]
theorem sc__law_same : FnScope N__law_same ["_law_found", "_law_expected"] (defScope s__law_same) := ⟨rfl, rfl, rfl, by decide +kernel, rfl, by decide +kernel, by decide +kernel⟩
-- slots: 0 _law_found, 1 _law_expected, 2 _law_one, 3 _law_other
theorem ok__law_same {f : Addr} {fd : FuncData} {k j : Nat} (F : Fun K "_law_same" "_law_same" s__law_same f fd) (c__law_same : CdG P w K mg base k "_law_same" f fd ["_law_found", "_law_expected"] (C__law_same j)) (m_all : mg "all" = none) (m_bool : mg "bool" = none) (m_int : mg "int" = none) (m_isinstance : mg "isinstance" = none) (m_len : mg "len" = none) (m_repr : mg "repr" = none) (m_str : mg "str" = none) (m_tuple : mg "tuple" = none) (m_zip : mg "zip" = none) : FnG P w K mg base CX0 (k + 1) f fd ["_law_found", "_law_expected"] (spD (C__law_same (j + 1)) 2) := by
  refine okDG F sc__law_same (fun G cdv A fr s H E hr hg =>
        (zs_cons (z_if (pq_val (pd_isi_tuple (pb_var (pv 1)) m_isinstance m_tuple))
          (zs_cons (z_if (PW.pt (w_or (pq_not (pq_val (pd_isi_tuple (pb_var (pv 0)) m_isinstance m_tuple))) (w_or1 (pq_cmp (op_neX hr.units) l_ne (PB.of (pd_len (pb_var (pv 0)) m_len)) (PB.of (pd_len (pb_var (pv 1)) m_len)) (nomark _)))))
            (zs_one (z_ret (PB.of pd_bl)))
            zs_nil)
          (zs_one (z_ret (PB.of (pd_all rfl (PB.of (PD.ofL (pl_lc (own := [("_law_one", 2), ("_law_other", 3)]) (tg := (.tp [2, 3])) rfl sc__law_same.nd (j_zip (pr_cons (pd_var (pv 0)) (pr_cons (pd_var (pv 1)) pr_nil)) m_zip) (blkOk_by (N := N__law_same) (sc := defScope s__law_same) (by decide +kernel)) (fun _ _ _ _ _ => (pg_tup rfl (pgs_cons (pg_name (i := 2) sc__law_same.nd rfl (by first | exact .inl rfl | exact .inr rfl)) (pgs_cons (pg_name (i := 3) sc__law_same.nd rfl (by first | exact .inl rfl | exact .inr rfl)) pgs_nil)))) (fun _ _ _ _ _ => ts_nil) (fun _ _ _ _ _ => (pd_callG c__law_same.G hr hg c__law_same.g c__law_same.kp c__law_same.b (pr_cons (pd_var (pv 2)) (pr_cons (pd_var (pv 3)) pr_nil)))) (by simp [tgIn])))) m_all)))))
          zs_nil)
        (zs_cons (z_if (PW.pt (w_or (pq_cmp op_is' l_is (pb_var (pv 1)) (PB.of pd_non) (nomark _)) (w_or1 (pq_cmp op_is' l_is (pb_var (pv 0)) (PB.of pd_non) (nomark _)))))
          (zs_one (z_ret (PB.of (pd_and (pd_cmp op_is' l_is (pb_var (pv 1)) (PB.of pd_non) (nomark _)) (pd_one (pd_cmp op_is' l_is (pb_var (pv 0)) (PB.of pd_non) (nomark _)))))))
          zs_nil)
        (zs_cons (z_if (PW.pt (w_or (pq_val (pd_isi_bool (pb_var (pv 1)) m_isinstance m_bool)) (w_or1 (pq_val (pd_isi_bool (pb_var (pv 0)) m_isinstance m_bool)))))
          (zs_one (z_ret (PB.of (pd_and (pd_isi_bool (pb_var (pv 1)) m_isinstance m_bool) (pd_and (pd_isi_bool (pb_var (pv 0)) m_isinstance m_bool) (pd_one (pd_cmp (op_eqX hr.units) l_eq (pb_var (pv 0)) (pb_var (pv 1)) (nomark _))))))))
          zs_nil)
        (zs_cons (z_if (pq_val (pd_isi_int (pb_var (pv 1)) m_isinstance m_int))
          (zs_one (z_ret (PB.of (pd_and (pd_isi_int (pb_var (pv 0)) m_isinstance m_int) (pd_one (pd_cmp (op_eqX hr.units) l_eq (pb_var (pv 0)) (pb_var (pv 1)) (nomark _)))))))
          zs_nil)
        (zs_cons (z_if (PW.pt (w_or (pq_val (pd_isi_str (pb_var (pv 1)) m_isinstance m_str)) (w_or1 (pq_val (pd_isi_str (pb_var (pv 0)) m_isinstance m_str)))))
          (zs_one (z_ret (PB.of (pd_and (pd_isi_str (pb_var (pv 1)) m_isinstance m_str) (pd_and (pd_isi_str (pb_var (pv 0)) m_isinstance m_str) (pd_one (pd_cmp (op_eqX hr.units) l_eq (pb_var (pv 0)) (pb_var (pv 1)) (nomark _))))))))
          zs_nil)
        (zs_one (z_ret (PB.of (pd_cmp (op_eqX hr.units) l_eq (PB.of (pd_repr hg hr.units (pb_var (pv 0)) m_repr)) (PB.of (pd_repr hg hr.units (pb_var (pv 1)) m_repr)) (nomark _))))))))))) (fun G as n Q hl hc => ?_)
  obtain ⟨d, rfl, hj, hd, q⟩ := hc
  rcases hd with ⟨ds, rfl, ft⟩ | ⟨i, rfl⟩ | ⟨ns, rfl, hl', hj2⟩
  · walk_at "go"
    walk_at "go"; refine opt_of (ft.repr) ?_
    walk_at "go"; refine opt_of (ft.repr) ?_
    walk_at "go"; refine opt_of (eq_self) ?_
    walk_at "go"; exact q
  · walk_at "go"
    walk_at "go"; refine opt_of (eq_int) ?_
    rw [decide_eq_true rfl]
    walk_at "go"; exact q
  · walk_at "go"
    walk_at "go"; refine opt_of (neq_int) ?_
    rw [decide_eq_true rfl]
    walk_at "go"; refine lc_zs ns (fun _ => .bool true) (fun i hi => ?_) (by omega) ?_
    · refine ⟨_, rfl, fun n R r => r, fun n R r => ?_⟩
      walk_at "go"
      exact And.intro rfl ⟨.int i, rfl, by omega, .inr (.inl ⟨i, rfl⟩), r⟩
    have em : ns.map (fun _ => PyData.bool true) = (ns.map fun _ => true).map PyData.bool := by rw [List.map_map]; rfl
    rw [em]
    walk_at "go"; refine opt_of (gBools_of) ?_
    have ea : (ns.map fun _ => true).all id = true := List.all_eq_true.mpr fun b hb => by obtain ⟨_, _, rfl⟩ := List.mem_map.mp hb; rfl
    rw [ea]
    walk_at "go"; exact q
theorem rec__law_same {f : Addr} {fd : FuncData} {k : Nat} (F : Fun K "_law_same" "_law_same" s__law_same f fd) (m_all : mg "all" = none) (m_bool : mg "bool" = none) (m_int : mg "int" = none) (m_isinstance : mg "isinstance" = none) (m_len : mg "len" = none) (m_repr : mg "repr" = none) (m_str : mg "str" = none) (m_tuple : mg "tuple" = none) (m_zip : mg "zip" = none) (kp : PySem.W.keepIn K (.ref f) = true) (b : Binds K fd ["_law_found", "_law_expected"] []) (g : mg "_law_same" = some (.ref f)) : ∀ j, FnG P w K mg base CX0 (k + 1 + j) f fd ["_law_found", "_law_expected"] (spD (C__law_same j) 2)
  | 0 => fnG_false rfl fun F as n Q h => no__law_same h
  | j + 1 => ok__law_same (k := k + 1 + j) F ⟨rec__law_same F m_all m_bool m_int m_isinstance m_len m_repr m_str m_tuple m_zip kp b g j, kp, b, g⟩ m_all m_bool m_int m_isinstance m_len m_repr m_str m_tuple m_zip
abbrev s__law_is_int : Stmt := topS 21
abbrev N__law_is_int : List Str := ["_law_value", "_law_low", "_law_high"]
theorem sc__law_is_int : FnScope N__law_is_int ["_law_value", "_law_low", "_law_high"] (defScope s__law_is_int) := ⟨rfl, rfl, rfl, by decide +kernel, rfl, by decide +kernel, by decide +kernel⟩
-- slots: 0 _law_value, 1 _law_low, 2 _law_high
theorem ok__law_is_int {f : Addr} {fd : FuncData} {k : Nat}  (F : Fun K "_law_is_int" "_law_is_int" s__law_is_int f fd) (m_bool : mg "bool" = none) (m_int : mg "int" = none) (m_isinstance : mg "isinstance" = none) : FnOk P w K mg base CX0 (k + 1) f fd ["_law_value", "_law_low", "_law_high"] (spD C__law_is_int 3) := by
  refine okD F sc__law_is_int (fun G cdv A fr s H E hr =>
        (zs_one (z_ret (PB.of (pd_and (pd_isi_int (pb_var (pv 0)) m_isinstance m_int) (pd_and (pd_not (pd_isi_bool (pb_var (pv 0)) m_isinstance m_bool)) (pd_one (pd_chain op_le op_le l_le l_le (pb_var (pv 1)) (pb_var (pv 0)) (pb_var (pv 2)))))))))) (fun G as n Q hl hc => ?_)
  obtain ⟨d, h, rfl, q⟩ := hc
  cases d with
  | int v =>
    walk_at "go"; try dsimp only [List.set_cons_zero, List.set_cons_succ]
    by_cases h0 : 0 ≤ v
    · rw [decide_eq_true h0]
      walk_at "go"
      have : decide (v ≤ h) = plcD (h + 1) (.int v) := decide_eq_decide.mpr ⟨fun w => ⟨h0, by omega⟩, fun w => by omega⟩
      rw [← this] at q
      walk_at "go"; exact q
    · rw [decide_eq_false h0]
      have : plcD (h + 1) (.int v) = false := decide_eq_false fun w => h0 w.1
      rw [this] at q
      walk_at "go"; exact q
  | _ => (walk_at "go"; exact q)
abbrev s__law_long_shape : Stmt := topS 22
abbrev N__law_long_shape : List Str := ["_law_stream_here", "_law_many", "_law_found", "_law_places", "_law_way", "_law_place", "_law_deep", "_law_kept"]
theorem sc__law_long_shape : FnScope N__law_long_shape ["_law_stream_here", "_law_many"] (defScope s__law_long_shape) := ⟨rfl, rfl, rfl, by decide +kernel, rfl, by decide +kernel, by decide +kernel⟩
-- slots: 0 _law_stream_here, 1 _law_many, 2 _law_found, 3 _law_places, 4 _law_way, 5 _law_place, 6 _law_deep, 7 _law_kept
theorem ok__law_long_shape {f : Addr} {fd : FuncData} {k : Nat} {f__law_draw : Addr} {d__law_draw : FuncData} (F : Fun K "_law_long_shape" "_law_long_shape" s__law_long_shape f fd) (c__law_draw : Cd P w K mg base k "_law_draw" f__law_draw d__law_draw ["_law_stream_here", "_law_many"] C__law_draw) (m_len : mg "len" = none) (m_min : mg "min" = none) (m_range : mg "range" = none) (m_tuple : mg "tuple" = none) : FnOk P w K mg base CX0 (k + 1) f fd ["_law_stream_here", "_law_many"] (spD C__law_long_shape 2) := by
  refine okD F sc__law_long_shape (fun G cdv A fr s H E hr =>
        (zs_cons (z_par3L (i := 2) (j := 3) (l := 4) rfl sc__law_long_shape.nd rfl rfl rfl (by decide) (by decide) (by decide) rfl rfl rfl (pl_lst pr_nil) (PD.ofL (pl_lst pr_nil)) (pd_call c__law_draw.G hr c__law_draw.g c__law_draw.kp c__law_draw.b (pr_con (pv 0) (pr_cons pd_int pr_nil))) (by rfl))
        (zs_cons (z_for (tg := (.nm 5)) PassesOwn.never rfl (j_range1 (pd_var (pv 1)) m_range) (pg_name (i := 5) sc__law_long_shape.nd rfl (by first | exact .inl rfl | exact .inr rfl))
          (zs_cons (z_set (i := 6) sc__law_long_shape.nd rfl (by first | exact .inl rfl | exact .inr rfl) (pd_call c__law_draw.G hr c__law_draw.g c__law_draw.kp c__law_draw.b (pr_con (pv 0) (pr_cons (pd_ix (PB.of (PD.ofL (pl_lst (pr_cons (pd_add (PB.of pd_int) (PB.of (pd_len (pb_var (pv 3)) m_len))) (pr_cons (pd_add (PB.of pd_int) (PB.of (pd_min2 rfl (PB.of pd_int) (PB.of (pd_len (pb_var (pv 3)) m_len)) m_min))) (pr_cons (pd_add (PB.of pd_int) (PB.of (pd_fdiv (PB.of (pd_len (pb_var (pv 3)) m_len)) (PB.of pd_int)))) pr_nil)))))) (pb_var (pv 4)) (fun _ _ => rfl)) pr_nil))))
          (zs_cons (z_set (i := 7) sc__law_long_shape.nd rfl (by first | exact .inl rfl | exact .inr rfl) (PD.ofL (pl_sl (pb_var (pv 3)) po_non (po_som (PB.of (pd_sub (PB.of (pd_len (pb_var (pv 3)) m_len)) (pb_var (pv 6))))))))
          (zs_cons (z_if (PW.pt (w_and (pq_cmp (op_eqX hr.units) l_eq (pb_var (pv 4)) (PB.of pd_int) (nomark _)) (w_and1 (pq_cmp (op_eqX hr.units) l_eq (PB.of (pd_call c__law_draw.G hr c__law_draw.g c__law_draw.kp c__law_draw.b (pr_con (pv 0) (pr_cons pd_int pr_nil)))) (PB.of pd_int) (nomark _)))))
            (zs_one (z_set (i := 7) sc__law_long_shape.nd rfl (by first | exact .inl rfl | exact .inr rfl) (PD.ofL (pl_lst pr_nil))))
            zs_nil)
          (zs_cons (z_app (pv 2) (pd_if (pq_cmp (op_neX hr.units) l_ne (pb_var (pv 7)) (PB.of (PD.ofL (pl_lst pr_nil))) (nomark _)) (pd_sub (pb_var (pv 5)) (PB.of (pd_ix (pb_var (pv 7)) (PB.of (pd_neg (PB.of pd_int))) (fun _ _ => rfl)))) pd_int))
          (zs_one (z_set (i := 3) sc__law_long_shape.nd rfl (by first | exact .inl rfl | exact .inr rfl) (PD.ofL (pl_add (pb_var (pv 7)) (PB.of (PD.ofL (pl_lst (pr_cons (pd_var (pv 5)) pr_nil)))))))))))))
        (zs_one (z_ret (PB.of (pd_tuple (pb_var (pv 2)) m_tuple))))))) (fun G as n Q hl hc => ?_)
  obtain ⟨m, rfl, hF, hn, m1, m60, q⟩ := hc
  walk_at "go"; refine And.intro (by decide) ?_
  walk_at "go"; refine And.intro (by decide) ?_
  walk_at "go"; try dsimp only [List.set_cons_zero, List.set_cons_succ]
  walk_at "go"; refine And.intro rfl ⟨3, rfl, hF, by show n < 1000000; omega, by decide, by decide, fun w w0 w1 => ?_⟩
  walk_at "go"; refine And.intro (dec2 (by omega)) ?_
  walk_at "go"; refine for_Z _ (fun i E => ∃ (fs ps : List Int) (y5 y6 y7 : Sl) (n' : Nat), E = ⟨[.con G.F.s, .dat (.int m), .own (fs.map dI), .dat (lstI ps), .dat (.int w), y5, y6, y7], n'⟩ ∧ fs.length = i ∧ okA fs ∧ ps = opn (fs.map dI) fs.length ∧ n' ≤ n + 1 + 2 * i) ⟨[], [], _, _, _, _, rfl, rfl, okA_nil, rfl, Nat.le_refl _⟩ (fun i E D' hi h nx ct bk rt => ?_) (fun E h => ?_)
  · obtain ⟨fs, ps, y5, y6, y7, n', rfl, lf, ok, hps, hn'⟩ := h
    have lp : ps.length ≤ i := by rw [hps]; have := opn_len2 ok; omega
    have hi : i < m := by rw [Int.toNat_natCast] at hi; exact hi
    walk_at "go"; try dsimp only [List.set_cons_zero, List.set_cons_succ]
    have fin : ∀ (ks : List Int) (y6 : Sl) (n2 : Nat), (∃ j, ks = ps.take j) → n2 ≤ n' + 2 →
        zSeq (zApp 2 (dIf (dTest (dOp (gEq true) (dBor 7) (dLst aNil))) (dOp (gI fun i j => PyData.int (i - j)) (dBor 5) (dOp gIx (dBor 7) (dUn gNeg (dC (PyData.int 1))))) (dC (PyData.int 0)))) (zSet 3 (dOp gCatL (dBor 7) (dLst (aCons (dVar 5) aNil)))) D' ⟨[.con G.F.s, .dat (.int m), .own (fs.map dI), .dat (lstI ps), .dat (.int w), .dat (.int (i : Nat)), y6, .dat (lstI ks)], n2⟩ := by
      intro ks y6 n2 ⟨j, hks⟩ hn2
      have lk : ks.length ≤ i := by rw [hks, List.length_take]; omega
      have app : ∀ v : Int, fs.map dI ++ [PyData.int v] = (fs ++ [v]).map dI := fun v => by rw [List.map_append]; rfl
      walk_at "go"; refine And.intro (by decide) ?_
      walk_at "go"; refine opt_of (eq_nilL (k := 0) (fun d hd => by obtain ⟨v, _, rfl⟩ := List.mem_map.mp hd; exact pln_int) (by decide)) ?_
      have cat : gCatL (lstI ks) (.list [.int (i : Nat)]) = some (lstI (ks ++ [((i : Nat) : Int)])) := by
        have z := cat_lst (a := ks.map dI) (b := [.int (i : Nat)]) (by rw [List.length_map]; simp; omega)
        rw [show lstI (ks ++ [((i : Nat) : Int)]) = PyData.list (ks.map dI ++ [.int (i : Nat)]) by unfold lstI; rw [List.map_append]; rfl]
        exact z
      rcases List.eq_nil_or_concat ks with e | ⟨l, x, e⟩
      · rw [decide_eq_true (show ks.map dI = [] by rw [e]; rfl)]
        walk_at "go"; try dsimp only [List.set_cons_zero, List.set_cons_succ]
        walk_at "go"; refine And.intro ((by rw [List.length_map]; omega)) ?_
        walk_at "go"; refine And.intro (rfl) ?_
        walk_at "go"; refine opt_of (cat) ?_
        walk_at "go"; refine nx _ ⟨fs ++ [0], ks ++ [((i : Nat) : Int)], _, _, _, n2, by rw [app]; rfl, by simp [lf], okA_snoc ok (by unfold dsI dsL; exact List.mem_cons_self), ?_, by omega⟩
        rw [e, List.length_append, show fs.length + [(0 : Int)].length = fs.length + 1 from rfl, opn_snoc0 ok, lf]
        rfl
      · have hj : (opn (fs.map dI) fs.length).take j = l ++ [x] := by rw [← hps, ← hks, e, List.concat_eq_append]
        obtain ⟨o1, o2⟩ := opn_snocx ok hj
        rw [decide_eq_false (show ¬ ks.map dI = [] by rw [e]; simp)]
        walk_at "go"; try dsimp only [List.set_cons_zero, List.set_cons_succ]
        walk_at "go"; refine opt_of ((show gIx (lstI ks) (.int (-1)) = some (.int x) by rw [e, List.concat_eq_append]; unfold lstI; rw [List.map_append]; exact ix_llast)) ?_
        walk_at "go"; refine And.intro ((by rw [List.length_map]; omega)) ?_
        walk_at "go"; refine And.intro (rfl) ?_
        walk_at "go"; refine opt_of (cat) ?_
        rw [lf] at o1
        walk_at "go"; refine nx _ ⟨fs ++ [((i : Nat) : Int) - x], ks ++ [((i : Nat) : Int)], _, _, _, n2, by rw [app]; rfl, by simp [lf], okA_snoc ok o1, ?_, by omega⟩
        rw [List.length_append, show fs.length + [((i : Nat) : Int) - x].length = fs.length + 1 from rfl]
        rw [lf] at o2 ⊢
        rw [o2, e, List.concat_eq_append]
    walk_at "go"; refine And.intro (rfl) ?_
    have lps : (ps.map dI).length = ps.length := List.length_map _
    obtain ⟨d, hd, ed⟩ := ix_mem (ds := [PyData.int (1 + ((ps.map dI).length : Nat)), .int (1 + if (((ps.map dI).length : Nat) : Int) < 2 then (((ps.map dI).length : Nat) : Int) else 2), .int (1 + (((ps.map dI).length : Nat) : Int) / 2)]) w0 w1
    obtain ⟨b, rfl, b1, b2⟩ : ∃ b : Int, d = .int b ∧ 1 ≤ b ∧ b ≤ 1 + (ps.length : Int) := by
      simp only [List.mem_cons, List.not_mem_nil, or_false] at hd
      rcases hd with rfl | rfl | rfl
      · exact ⟨_, rfl, by omega, by omega⟩
      · refine ⟨_, rfl, ?_, ?_⟩ <;> split <;> omega
      · exact ⟨_, rfl, by omega, by omega⟩
    walk_at "go"; refine opt_of (ed) ?_
    walk_at "go"; refine And.intro rfl ⟨b, rfl, hF, by show n' < 1000000; omega, by omega, by omega, fun r r0 r1 => ?_⟩
    walk_at "go"; try dsimp only [List.set_cons_zero, List.set_cons_succ]
    walk_at "go"; refine opt_of (slL_to (ds := ps.map dI) (b := ps.length - r.toNat) (by omega)) ?_
    have ek : PyData.list ((ps.map dI).take (ps.length - r.toNat)) = lstI (ps.take (ps.length - r.toNat)) := by unfold lstI; rw [List.map_take]
    rw [ek]
    have bk : ∃ j, ps.take (ps.length - r.toNat) = ps.take j := ⟨_, rfl⟩
    walk_at "go"; try dsimp only [List.set_cons_zero, List.set_cons_succ]
    walk_at "go"; refine opt_of (eq_int) ?_
    by_cases e0 : w = 0
    · rw [decide_eq_true e0]
      walk_at "go"; try dsimp only [List.set_cons_zero, List.set_cons_succ]
      walk_at "go"; refine And.intro rfl ⟨9, rfl, hF, by show n' + 1 < 1000000; omega, by decide, by decide, fun s s0 s1 => ?_⟩
      walk_at "go"; refine opt_of (eq_int) ?_
      by_cases e1 : s = 0
      · rw [decide_eq_true e1]
        walk_at "go"; refine And.intro (by decide) ?_
        exact fin [] _ _ ⟨0, rfl⟩ (Nat.le_refl _)
      · rw [decide_eq_false e1]
        exact fin _ _ _ bk (Nat.le_refl _)
    · rw [decide_eq_false e0]
      exact fin _ _ _ bk (Nat.le_succ _)
  · obtain ⟨fs, ps, y5, y6, y7, n', rfl, lf, ok, hps, hn'⟩ := h
    rw [Int.toNat_natCast] at lf hn'
    walk_at "go"; exact q fs n' lf ok hn'
end
end Lw
/-! a def with one star parameter, read over data -/
namespace Dl
open PySem PySem.Spec PyProof.Rows L2 Gd
/-- the arguments stand in one tuple -/
def spDS (C : Con) : Sp := fun vs H Q _ => ∃ (F : Fr) (B : Addr → Prop) (as : List Ar) (n : Nat) (Qd : PyData → Nat → Prop) (ds : List PyData), (∀ x, F.S x → B x) ∧ Hb B H ∧ Paired (ArR B H) vs as ∧ F.I n H ∧
  (∀ d n v H', Kp F.S H H' → F.I n H' → Dv B H' v d → Qd d n → Q v H') ∧ dats as = some ds ∧ ds.length ≤ 100000 ∧ C F [.d (.tuple ds)] n Qd
section
variable {P : Program} {w : World} {K : PySem.W.Frag} {mg : Str → Option Value} {base : Heap}
theorem okDS {x qual pv : Str} {st : Stmt} {f : Addr} {fd : FuncData} {N : List Str} {k : Nat} {C : Con} {t : Gx → TSd} (F : Fun K x qual st f fd) (S : FnScope N [pv] (defScope st))
    (hb : ∀ (kV doc pm : Value) (an : Option Addr) (cdv ct : Value) (us rest : List Value), us.length = ([] : List Str).length → bindArgs (PySem.W.fnOf x qual (defArgs st) (defBody st) (defScope st) .none kV doc pm an cdv ct) ⟨us ++ rest, []⟩ = (newTuple rest >>= fun t => pure (([] : List Str).zip us ++ [(pv, t)])))
    (der : ∀ (G : Gx) (cdv : Value) (A : Around) (fr : List Env) (s : Shared) (H : Hp) (E : XK), Room k (A.deeper (envOfC qual (defScope st) s.heap.objs.size f cdv)) → PZs (cxOf CX0 P w K mg base N qual (defScope st) f cdv A fr s H E).nox G (defBody st) (t G))
    (sem : ∀ (G : Gx) (as : List Ar) (n : Nat) (Qd : PyData → Nat → Prop), as.length = 1 → C G.F as n Qd → t G { nx := fun E => Qd .none E.n, rt := Qd } ⟨as.map Ar.sl ++ List.replicate (N.length - 1) Sl.no, n⟩) :
    FnR P w K mg base CX0 (k + 1) f (spDS C) := by
  obtain ⟨oc, od, kV, doc, pm, an, cdv, ct, osl, rfl, lk, hcd⟩ := F.ex
  have z := StX.fn_star (P := P) (w := w) (mg := mg) (base := base) (CX := CX0) (k := k) (ps := []) (pv := pv) (N := N) (sp := spD C 1) lk hcd S StX.cxUp_none (hb kV doc pm an cdv ct)
    (fun A outer s H vs Q E hr h => by
      obtain ⟨hl, F', B, as, n, Qd, sb, hb, hv, i, im, c⟩ := h
      have dd := (der ⟨F', B, H, sb, hb⟩ cdv A outer s H E hr).nox
      refine ⟨_, dd, B, _, _, rel_start (G := ⟨F', B, H, sb, hb⟩) hv rfl i, ?_, by have := sem ⟨F', B, H, sb, hb⟩ as n Qd (hv.length.symm.trans hl) c; rw [← hl] at this; exact this⟩
      exact ⟨fun O' σ' H' E' l r q => im .none E'.n .non H' r.kp r.str .non q, fun v H' d n k i dv q => im d n v H' k i dv q, fun _ _ _ _ _ _ q => q.elim, fun _ _ _ _ _ _ q => q.elim⟩)
  intro A outer s H us vs Q E hr e0 r h
  obtain ⟨F', B, as, n, Qd, ds, sb, hbb, hv, i, im, hd, hl, c⟩ := h
  have dv := dats_dv hv hd
  refine z A outer s H us _ Q E hr e0 r ⟨[], vs, rfl, rfl, by rw [dv.length]; exact sz_of hl, fun p np => ?_⟩
  have s1 : Same H (upd H p (.tup vs)) := same_upd' np
  have nB : ¬ B p := fun y => hbb.h p y np
  refine ⟨rfl, F', B, [.d (.tuple ds)], n, Qd, sb, hbb.same fun x u _ e => s1 x u e, .cons (Dv.mkT upd_same nB (dv.later (later_new np))) .nil, F'.keep _ _ _ i fun x o _ e => s1 x o e, fun d n' v H' k2 i2 d2 q2 => im d n' v H' ((Kp.of_same s1).trans k2) i2 d2 q2, c⟩
structure CdS (P : Program) (w : World) (K : PySem.W.Frag) (mg : Str → Option Value) (base : Heap) (k : Nat) (x : Str) (f : Addr) (C : Con) : Prop where
  G : FnR P w K mg base CX0 k f (spDS C)
  kp : PySem.W.keepIn K (.ref f) = true
  g : mg x = some (.ref f)
end
section
variable {X : Cx} {G : Gx}
def dCallS (F : Fr) (C : Con) (ts : TDa) : TD := fun E Q => ts E fun as n => opt (dats as) fun ds => ds.length ≤ 100000 ∧ C F [.d (.tuple ds)] n Q
theorem pd_callS {k : Nat} {f : Addr} {C : Con} {x : Str} {p pos : Pos} {e : Expr} {es : List Expr} {ts : TDa} (F : FnR X.prog X.w X.K X.mg X.base CX0 k f (spDS C)) (hr : Room k X.A) (hm : X.mg x = some (.ref f)) (hk : PySem.W.keepIn X.K (.ref f) = true)
    (ha : PR X G (e :: es) ts) (hg : Gl X x := by rfl) (hdb : (x == ("__debug__" : Str)) = false := by decide) (he : starEach (e :: es) X.env = (false, eval e X.env) :: starEach es X.env := by rfl) (hpl : (backTo pos (starEach es X.env)).any (·.1) = false := by rfl) :
    PD X G (.Call (.Name x p) (e :: es) [] pos) (dCallS G.F C ts) := PE.wk (pe_callRS (E := fun _ _ _ _ => False) F hr hg hm hk (fun σ _ _ _ _ _ _ h => h.elim) ha hdb he hpl) fun σ H Q ⟨O, E, Qd, r, im, z⟩ => by
  refine ⟨O, E, _, r, ?_, z⟩
  rintro as n vs H1 k1 i1 rv q1
  obtain ⟨ds, e, q0, q1⟩ := opt_el q1
  have r1 := r.step k1 i1
  exact ⟨G.F, O, as, n, _, ds, r.sO, r1.aB, rv, i1, fun d n' v H' k2 i2 dv q2 => im d n' v H' (k1.trans k2) i2 dv q2, e, q0, q1⟩
theorem fnR_mono {P : Program} {w : World} {K : PySem.W.Frag} {mg : Str → Option Value} {base : Heap} {CX : CXT} {j k : Nat} {f : Addr} {sp : Sp} (F : FnR P w K mg base CX j f sp) (h : j ≤ k) : FnR P w K mg base CX k f sp := fun A outer s H us vs Q E hr => F A outer s H us vs Q E (hr.mono h)
theorem CdS.mono {P : Program} {w : World} {K : PySem.W.Frag} {mg : Str → Option Value} {base : Heap} {j k : Nat} {x : Str} {f : Addr} {C : Con} (c : CdS P w K mg base j x f C) (h : j ≤ k) : CdS P w K mg base k x f C := ⟨fnR_mono c.G h, c.kp, c.g⟩
end
end Dl
/-! A caught error handed to a def, within the except suite. -/
namespace Gd
open PySem PySem.Spec PyProof.Rows L2
/-- a def that is called in a suite, told of the pinned error p -/
structure FnE (P : Program) (w : World) (K : PySem.W.Frag) (mg : Str → Option Value) (base : Heap) (k : Nat) (f : Addr) (fd : FuncData) (ps : List Str) (sp : Addr × Obj → Sp) : Prop where
  len : ∀ p vs H Q E, sp p vs H Q E → vs.length = ps.length
  run : ∀ (A : Around) (fr : List Env) (s : Shared) (H : Hp) (ar : Args) (us : List Value) (vs : List V) (Q : VK) (E : XK) (p : Addr × Obj), L2H.RoomH k A → L2H.PinOk fr H s p → Env0 P w K mg base A fr s H → BindsTo s fd ar (ps.zip us) →
    Vals vs us → sp p vs H Q E → codeAny (model P w) A (.call (.ref f) ar) (CR CX0 fr P w H s Q E) s
section
variable {P : Program} {w : World} {K : PySem.W.Frag} {mg : Str → Option Value} {base : Heap}
theorem FnE.mono {j k : Nat} {f : Addr} {fd : FuncData} {ps : List Str} {sp : Addr × Obj → Sp} (F : FnE P w K mg base j f fd ps sp) (h : j ≤ k) : FnE P w K mg base k f fd ps sp :=
  ⟨F.len, fun A fr s H ar us vs Q E p hr => F.run A fr s H ar us vs Q E p (hr.mono h)⟩
theorem fnE_of {x qual : Str} {st : Stmt} {f : Addr} {fd : FuncData} {N ps : List Str} {k : Nat} {sp : Addr × Obj → Sp} (F : Fun K x qual st f fd) (S : FnScope N ps (defScope st)) (len : ∀ p vs H Q E, sp p vs H Q E → vs.length = ps.length)
    (body : ∀ (cdv : Value) (A : Around) (fr : List Env) (s : Shared) (H : Hp) (vs : List V) (Q : VK) (E : XK) (p : Addr × Obj), L2H.RoomH k (A.deeper (envOfC qual (defScope st) s.heap.objs.size f cdv)) → sp p vs H Q E →
      ∃ t, PSs (L2H.cxH CX0 P w K mg base N qual (defScope st) f cdv A fr s H E p).nox (defBody st) t ∧ t { nx := fun _ H' => Q .non H', rt := Q } (start N vs) H) : FnE P w K mg base (k + 1) f fd ps sp := by
  obtain ⟨oc, od, kV, doc, pm, an, cdv, ct, osl, rfl, lk, hcd⟩ := F.ex
  refine ⟨len, ?_⟩
  intro A fr s H ar us vs Q E p room pin env bd rel want
  have inK : K.In s.heap := env.mod.kin.keeps (fun b o z => (env.bs b o z).1)
  have nolim : s.heap.NoLimit := env.mod.nolimit.keeps (fun b o z => (env.bs b o z).1)
  refine codeAny_call_function room.depth (inK _ _ lk) rfl S.co S.gen rfl
    (PySem.W.codeRec_of inK hcd) (bd _ _ _ _ ?_)
  refine wpAny_newFunctionEnv_cells S.kind ?kinds ?rest
  case kinds =>
    rintro ⟨n, v⟩ hm
    have par := S.par n (List.of_mem_zip hm).1
    rcases par with z | z
    · exact Or.inl z
    · exact Or.inr (And.intro z (PySem.W.cellsFrom_some _ _ _ (.inl z)))
  case rest =>
    intro env1 e1 s1 inCall
    subst e1
    refine ⟨nolim.keeps inCall.toInCall.keep, codeAny_func ?_⟩
    obtain ⟨t, tree, reading⟩ := body cdv A fr s H vs Q E p (room.deeper _) want
    have I0 : Inv (L2H.cxH CX0 P w K mg base N qual (defScope st) f cdv A fr s H E p) [] (start N vs) H s1 := L2H.inv_startH S pin env (len _ _ _ _ _ want) rel inCall
    have ran := tree.nox.run [] s1 (start N vs) H _ I0 reading
    refine wpAny_mono ran ?good (fun _ _ z => z)
    case good =>
      intro flow s2 end2
      cases flow with
      | brk => obtain ⟨_, _, _, no⟩ := end2; exact no.elim
      | cont => obtain ⟨_, _, _, no⟩ := end2; exact no.elim
      | next =>
        obtain ⟨σ2, H2, I2, q2⟩ := end2
        exact (⟨.non, H2, I2.os, I2.bare, I2.base, I2.hok, rfl, q2⟩ : CE fr P w H s Q Value.none s2)
      | ret u =>
        obtain ⟨v, σ2, H2, I2, rv, q2⟩ := end2
        exact (⟨v, H2, I2.os, I2.bare, I2.base, I2.hok, rv, q2⟩ : CE fr P w H s Q u s2)
end
section
variable {X : Cx} {a D : Addr} {oe : Obj} {d : Option Addr}
theorem inst_P {pins : List (Addr × Obj)} {σ : L2.St} {H : Hp} {s : Shared} (hp : (a, oe) ∈ X.pn) (I : Inv X pins σ H s) (hz : Zc (.ref D) d oe) (hf : ∃ vs, oe.data = .fields vs) (k : DOk H d) : ∃ od, PySem.W.InstAt s.heap a oe D od := by
  obtain ⟨get, _⟩ := I.pin (a, oe) (List.mem_append_left _ hp)
  obtain ⟨vs, hd⟩ := hf
  have nc : PySem.W.notCls oe := by unfold PySem.W.notCls; rw [hd] <;> rfl
  rcases k with rfl | ⟨dd, fs, rfl, hx⟩
  · exact ⟨none, get, hz.1, nc, by rw [hz.2]; trivial⟩
  · have ox : ObjOk X.prog X.w H s.heap dd (.xd fs) := I.hok dd _ hx
    obtain ⟨mA, hns, _⟩ := ox
    obtain ⟨od, ho, _⟩ := lookIn_ns hns
    exact ⟨some od, get, hz.1, nc, by rw [hz.2]; exact ho⟩
theorem call_isP {cls : Value} (hp : (a, oe) ∈ X.pn) (C : ExcD X.K D) (hz : Zc cls d oe) (hf : ∃ vs, oe.data = .fields vs) : CallR X (.builtin "isinstance") (rIsZ X.K D a cls d) := by
  intro pins s σ H xs us Q I r want
  obtain ⟨c, u, b, rfl, ec, kc, kd, e, q⟩ := want
  subst ec
  obtain ⟨u1, u2, rfl, r1, r2⟩ := vals2 r
  cases r1
  have e2 := kc.eq r2
  subst e2
  obtain ⟨od, J⟩ := inst_P hp I hz hf kd
  exact PySem.W.kia_one (PySem.W.kitx_exc C.cl C.ga C.gg C.sb C.ca C.cg C.ct C.co) I.kIn J e (fun z => nomatch z) fun tk => ⟨.bl b, H, I.tok tk, rfl, q⟩
theorem call_isPT {cls : Value} (hp : (a, oe) ∈ X.pn) (C : ExcD X.K D) (hz : Zc cls d oe) (hf : ∃ vs, oe.data = .fields vs) : CallR X (.builtin "isinstance") (rIsZT X.K D a cls d) := by
  intro pins s σ H xs us Q I r want
  obtain ⟨tp, cs, ws, b, rfl, ec, hT, kc, kd, e, q⟩ := want
  subst ec
  obtain ⟨u1, u2, rfl, r1, r2⟩ := vals2 r
  cases r1
  cases r2
  obtain ⟨od, J⟩ := inst_P hp I hz hf kd
  obtain ⟨_, its, rv, o, h1, h2, n, h3⟩ := (show ObjOk X.prog X.w H s.heap tp (.tup cs) from I.hok tp _ hT)
  have e3 := ClsV.all kc rv
  subst e3
  obtain ⟨oc, od2, dt, sl⟩ := o
  simp only at h2 h3
  subst h2 h3
  exact PySem.W.kia_tup (PySem.W.kitx_exc C.cl C.ga C.gg C.sb C.ca C.cg C.ct C.co) I.kIn J h1 e (fun z => nomatch z) fun tk => ⟨.bl b, H, I.tok tk, rfl, q⟩
end
/-! ### the call, in the suite -/
section
variable {X : Cx} {k : Nat} {f : Addr} {fd : FuncData} {ps : List Str} {sp : Addr × Obj → Sp} {x : Str} {q pos : Pos} {e : Expr} {es : List Expr} {t : TA} {p : Addr × Obj}
def tCallE (sp : Addr × Obj → Sp) (p : Addr × Obj) (t : TA) : TE := fun σ H Q => t σ H fun vs H1 => sp p vs H1 Q fun _ _ _ => False
theorem pe_callE (F : FnE X.prog X.w X.K X.mg X.base k f fd ps sp) (hr : L2H.RoomH k X.A) (hp : p ∈ X.pn) (hg : Gl X x) (hm : X.mg x = some (.ref f)) (hk : PySem.W.keepIn X.K (.ref f) = true) (hb : Binds X.K fd ps [])
    (ha : PA X (e :: es) t) (hdb : (x == ("__debug__" : Str)) = false := by decide) (he : starEach (e :: es) X.env = (false, eval e X.env) :: starEach es X.env := by rfl) (hpl : (backTo pos (starEach es X.env)).any (·.1) = false := by rfl) :
    PE X (.Call (.Name x q) (e :: es) [] pos) (tCallE sp p t) := by
  refine ⟨fun pins s σ H Q I want => ?_⟩
  refine wpAny_Call_Name_kw (ld_glob I hg hm ?_ hdb)
  refine PySem.W.callWith_K (h₀ := X.base) I.ok.mod.kin hk (thn (ha.run pos pins s σ H _ I want) ?_) he hpl
  rintro us s1 ⟨vs, H1, I1, r, q1⟩
  refine ⟨I1.kIn, ?_⟩
  have hl : us.length = ps.length := by rw [← r.length]; exact F.len _ _ _ _ _ q1
  have b := hb s1 us I1.kIn (by rw [List.append_nil]; exact hl)
  rw [List.append_nil] at b
  obtain ⟨p1, p2, p3, p4, p5⟩ := I1.pin p (List.mem_append_left _ hp)
  have pin : L2H.PinOk X.stack H1 s1 p := ⟨p1, p2, fun hm => (List.mem_cons.mp (I1.stkSub p.1 hm)).elim p3 p4, p5⟩
  refine wpAny_call (codeAny_mono (F.run X.A X.stack s1 H1 ⟨us, []⟩ us vs Q _ p hr pin I1.env0 b r q1) ?_)
  intro r2 s2 h2
  cases r2 with
  | error e => exact False.elim h2
  | ok fl => cases fl with
    | ret u => exact I1.after h2
    | _ => exact False.elim h2
end
/-! ### list.count, over data -/
section
variable {X : Cx}
def rCntD (K : PySem.W.Frag) : V → List V → Hp → VK → Prop := fun x xs H Q => ∃ (ds : List PyData) (d : PyData) (y : V), xs = [y] ∧ Dp K H x (.list ds) ∧ Dp K H y d ∧ PyData.plainAll ds = true ∧ d.plain = true ∧ d.depth = 0 ∧ Q (.int (ds.countP fun z => PyData.eqv z d : Nat)) H
theorem mt_cntD (hu : X.A.units + 1 < cLine) : MtR X "list.count" (rCntD X.K) := by
  intro pins s σ H x xs v us Q I rx rxs h
  obtain ⟨ds, d, y, rfl, hx, hy, h1, h2, h3, q⟩ := h
  obtain ⟨u, rfl, ru⟩ := rxs.one
  obtain ⟨as, r1⟩ := Dp.reads I (.list ds) x v hx rx
  obtain ⟨bs, r2⟩ := Dp.reads I d y u hy ru
  cases r1 with
  | list ho hc hd hr =>
    exact SeqAt.count_list_data ⟨_, ho, hc, _, hd⟩ hr r2 h1 h2 (by rw [h3]; omega) ⟨.int _, H, I.tok _, ⟨_, rfl⟩, q⟩
end
end Gd
namespace Dl
open PySem PySem.Spec PyProof.Rows L2 Gd
section
variable {X : Cx} {G : Gx} {a D : Addr} {oe : Obj} {d : Option Addr}
def dIsE (i : Nat) (a : Addr) (b : Bool) : TD := fun E Q => E.ρ[i]? = some (.con (.ref a)) ∧ Q (.bool b) E.n
theorem pd_isE {i : Nat} {x y : Str} {p p1 p2 pos : Pos} {c : V} {u : Value} {b : Bool} (hx : PE X (.Name x p1) (tVar i)) (hc : PE X (.Name y p2) (tC c)) (kc : ClsV c u) (hp : (a, oe) ∈ X.pn) (C : ExcD X.K D) (hz : Zc (.ref D) d oe) (hf : ∃ vs, oe.data = .fields vs) (hk : PySem.W.kitOne X.K (.ref D) u = some b) (hI : ∀ n H, G.F.I n H → DOk H d)
    (hm : X.mg "isinstance" = none) (hg : Gl X "isinstance" := by rfl) (hs : starEach [.Name x p1, .Name y p2] X.env = (false, eval (.Name x p1) X.env) :: starEach [.Name y p2] X.env := by rfl) (hs2 : starEach [.Name y p2] X.env = (false, eval (.Name y p2) X.env) :: starEach [] X.env := by rfl) (hpl : (backTo pos (starEach [.Name y p2] X.env)).any (·.1) = false := by rfl) :
    PD X G (.Call (.Name "isinstance" p) [.Name x p1, .Name y p2] [] pos) (dIsE i a b) :=
  PE.wk (pe_callB (call_isP hp C hz hf) hg hm (by decide +kernel) (pa_cons hx (pa_cons hc pa_nil hs2) hs) (he := hs) (hpl := hpl)) fun σ H Q ⟨O, E, Qd, r, im, z⟩ => by
    obtain ⟨e, q⟩ := z
    exact ⟨.ref a, r.con i _ e, c, u, b, rfl, rfl, kc, hI _ _ r.str, hk, im _ E.n _ H (Kp.refl H) r.str (.bl b) q⟩
theorem pd_isET {i : Nat} {x y1 y2 : Str} {p p1 p2 p3 p5 pos : Pos} {x1 : _} {c1 c2 : V} {u1 u2 : Value} {b : Bool} (hx : PE X (.Name x p1) (tVar i)) (hc1 : PE X (.Name y1 p2) (tC c1)) (hc2 : PE X (.Name y2 p3) (tC c2)) (kc1 : ClsV c1 u1) (kc2 : ClsV c2 u2) (hp : (a, oe) ∈ X.pn) (C : ExcD X.K D) (hz : Zc (.ref D) d oe) (hf : ∃ vs, oe.data = .fields vs) (hk : PySem.W.kitAny X.K (.ref D) [u1, u2] = some b) (hI : ∀ n H, G.F.I n H → DOk H d)
    (hm : X.mg "isinstance" = none) (hg : Gl X "isinstance" := by rfl) (hs0 : starEach [.Name y1 p2, .Name y2 p3] X.env = (false, eval (.Name y1 p2) X.env) :: starEach [.Name y2 p3] X.env := by rfl) (hs3 : starEach [.Name y2 p3] X.env = (false, eval (.Name y2 p3) X.env) :: starEach [] X.env := by rfl)
    (hs : starEach [.Name x p1, .Tuple [.Name y1 p2, .Name y2 p3] x1 p5] X.env = (false, eval (.Name x p1) X.env) :: starEach [.Tuple [.Name y1 p2, .Name y2 p3] x1 p5] X.env := by rfl) (hs2 : starEach [.Tuple [.Name y1 p2, .Name y2 p3] x1 p5] X.env = (false, eval (.Tuple [.Name y1 p2, .Name y2 p3] x1 p5) X.env) :: starEach [] X.env := by rfl) (hpl : (backTo pos (starEach [.Tuple [.Name y1 p2, .Name y2 p3] x1 p5] X.env)).any (·.1) = false := by rfl) :
    PD X G (.Call (.Name "isinstance" p) [.Name x p1, .Tuple [.Name y1 p2, .Name y2 p3] x1 p5] [] pos) (dIsE i a b) :=
  PE.wk (pe_callB (call_isPT hp C hz hf) hg hm (by decide +kernel) (pa_cons hx (pa_cons (pe_tup (pa_cons hc1 (pa_cons hc2 pa_nil hs3) hs0)) pa_nil hs2) hs) (he := hs) (hpl := hpl)) fun σ H Q ⟨O, E, Qd, r, im, z⟩ => by
    obtain ⟨e, q⟩ := z
    refine ⟨.ref a, r.con i _ e, by show 2 ≤ sizeLine; decide, fun c nc => ?_⟩
    obtain ⟨k2, i2⟩ := r.fin (same_upd' (o := .tup [c1, c2]) nc)
    exact ⟨c, _, [u1, u2], b, rfl, rfl, upd_same, .cons kc1 (.cons kc2 .nil), hI _ _ i2, hk, im _ E.n _ _ k2 i2 (.bl b) q⟩
def gCnt : PyData → PyData → Option PyData
  | .list ds, y => if PyData.plainAll ds && y.plain && decide (y.depth = 0) && SeqAt.shaped (.list ds) && SeqAt.shaped y then some (.int (ds.countP fun z => PyData.eqv z y : Nat)) else none
  | _, _ => none
def dCnt (ta tb : TD) : TD := fun E Q => ta E fun x n => match x with | .list ds => tb ⟨E.ρ, n⟩ fun y m => opt (gCnt (.list ds) y) fun z => Q z m | _ => False
theorem pd_cnt {o e : Expr} {ta tb : TD} {apos cpos : Pos} (hu : X.A.units + 1 < cLine) (ho : PB X G o ta) (he : PB X G e tb) (hbase : attributeBase o "count" X.env (eval o X.env) = eval o X.env := by rfl)
    (hfew : ((backTo cpos (starEach [e] X.env)).all (fun x => !x.1) && (backToKw cpos (keywordEach [] X.env)).all (fun x => x.1.isSome) && decide (([e] : List Expr).length + ([] : List Keyword).length + (if ([] : List Keyword).isEmpty then 0 else 1) < 30)) = true := by rfl)
    (hline : (apos.endLine == cpos.line) = true := by rfl) (hst : starEach [e] X.env = (false, eval e X.env) :: starEach [] X.env := by rfl) : PD X G (.Call (.Attribute o "count" apos) [e] [] cpos) (dCnt ta tb) :=
  PE.wk (pe_bm PySem.F.plainAttrs_list PySem.F.slot_list_count PySem.F.type_list_count (mt_cntD hu) ho (pa_cons he pa_nil hst) hbase hfew hline hst) fun σ H Q ⟨O, E, Qd, r, im, z⟩ => by
    refine ⟨O, E, _, r, ?_, z⟩
    rintro dx n x H1 k1 i1 rx q1
    have r1 := r.step k1 i1
    split at q1
    · rename_i ds
      obtain ⟨a, vs, rfl, h1, d1⟩ := rx.bw.lst
      refine ⟨.inl ⟨rfl, _, sq_of h1⟩, O, _, _, r1, ?_, q1⟩
      rintro dy m y H2 k2 i2 ry q2
      obtain ⟨w, e1, q⟩ := opt_el q2
      have rx2 := (rx.kp r1 k2 (H1 := H)).bw
      have e3 : (if (PyData.plainAll ds && dy.plain && decide (dy.depth = 0) && SeqAt.shaped (.list ds) && SeqAt.shaped dy) = true then some (PyData.int (ds.countP fun z => PyData.eqv z dy : Nat)) else none) = some w := e1
      split at e3
      · rename_i hs
        simp only [Bool.and_eq_true, decide_eq_true_eq] at hs
        cases e3
        exact ⟨ds, dy, y, rfl, rx2.dp hs.1.2, ry.bw.dp hs.2, hs.1.1.1.1, hs.1.1.1.2, hs.1.1.2, im _ m _ H2 (k1.trans k2) i2 (.int _) q⟩
      · cases e3
    · exact q1.elim
end
end Dl
/-! Generators: if and for in their bodies; tuple(g). -/
namespace Gt
open PySem PySem.Spec PyProof.Rows L2 Gd GenW
section
variable {X : Cx} {st : Stmt} {rest : List Stmt}
/-- a statement that hands out nothing and raises nothing -/
theorem gs_nox {t : TS} (h : PS X.nox st t) : GS X st (tPlain t) := by
  refine ⟨fun A S ip R n ys s₀ c fs K J gd lv s σ H D g hn k gi rd => ?_⟩
  obtain ⟨acc, cc, r, I⟩ := gi
  refine seg_wrap ?_
  rw [g.over]
  exact wpAny_mono (h.run _ s σ H (D.at ys) (I.wish _) rd) (fun f s' hs => k.ok n ys s₀ s' f hn (sp_gsp r hs.unwish)) fun x s' hx => hx.elim
theorem gss_one {t : TGn} (a : GS X st t) : GSs X [st] (tGThen t tG0) := gss_cons a gss_nil
def tGIf (c : TT) (t u : TGn) : TGn := fun D ys σ H => c σ H fun b H1 => if b = true then t D ys σ H1 else u D ys σ H1
theorem gs_if {test : Expr} {body orelse : List Stmt} {pos : Pos} {tc : TT} {t u : TGn} (hc : PT X.nox test tc) (hb : GSs X body t) (ho : GSs X orelse u) : GS X (.If test body orelse pos) (tGIf tc t u) := by
  refine ⟨fun A S ip R n ys s₀ c fs K J gd lv s σ H D g hn k gi rd => ?_⟩
  rw [exec_If]
  show Seg _ _ _ _ n s₀ c (.at pos fun _ => ((isTrue test X.env (eval test X.env)) >>= fun b => if b = true then execs body X.env else execs orelse X.env).wrap K J gd lv) fs s
  refine seg_at (seg_bind_wrap ?_)
  rw [g.over]
  obtain ⟨acc, cc, r, I⟩ := gi
  refine wpAny_mono (hc.run _ s σ H _ (I.wish _) rd) (fun b s' hb' => ?_) fun x s' hx => hx.elim
  obtain ⟨H2, I2, q2⟩ := hb'
  cases b with
  | true =>
    rw [if_pos rfl] at q2 ⊢
    exact hb.run A S ip R n ys s₀ c fs K J gd lv s' σ H2 D g hn k ⟨acc, cc, r, I2.unwish⟩ q2
  | false =>
    rw [if_neg Bool.false_ne_true] at q2 ⊢
    exact ho.run A S ip R n ys s₀ c fs K J gd lv s' σ H2 D g hn k ⟨acc, cc, r, I2.unwish⟩ q2
def tGFor (wi : TI) (g : TG) (tb : TGn) : TGn := fun D ys σ H => wi σ H fun J H1 => ∃ W : Nat → Nat → List V → L2.St → Hp → Prop, (∃ m, W 0 m ys σ H1) ∧ ∀ i m ys σ H, W i m ys σ H →
  (J.stop i H ∧ D.nx ys σ H) ∨ (J.go i H ∧ ∃ N : List V → L2.St → Hp → Prop, (∀ ys' σ' H', N ys' σ' H' → ∃ m', m' < m ∧ W (i + 1) m' ys' σ' H') ∧ ∀ x H', J.yld i H x H' → g x σ H' fun σ2 H2 => tb { D with nx := N, ct := N, bk := D.nx } ys σ2 H2)
theorem gs_for {tg iter : Expr} {body : List Stmt} {pos : Pos} {wi : TI} {gt : TG} {tb : TGn} (hp : PassesOwn (model X.prog X.w) X.A X.env X.xe) (hc : X.calm = true) (hi : PI X.nox tg iter wi) (hg : PG X.nox tg gt) (hb : GSs X body tb)
    (hs : ∀ x, foldedSetIterable iter X.env x = pure x := by intro _; rfl) : GS X (.For tg iter body [] pos) (tGFor wi gt tb) := by
  refine ⟨fun A S ip R n ys s₀ c fs K J gd lv s σ H D g hn k gi rd => ?_⟩
  rw [exec_For]
  obtain ⟨acc, cc, r, I⟩ := gi
  show Seg _ _ _ _ n s₀ c (.at pos fun _ => (eval iter X.env >>= fun x0 => (foldedSetIterable iter X.env x0 >>= fun x => (standAt iter.pos >>= fun _ => (holding [x] (pyIter x) >>= fun it => runOwn (.forLoop tg it body [] X.env) X.env)))).wrap K J gd lv) fs s
  refine seg_at (seg_bind_wrap ?_)
  rw [g.over]
  refine wpAny_mono (hi.run _ s σ H _ (I.wish _) rd) (fun v s1 h1 => ?_) fun x s' hx => hx.elim
  rw [hs v]
  show Seg _ _ _ _ n s₀ c (.at iter.pos fun _ => ((holding [v] (pyIter v) >>= fun it => runOwn (.forLoop tg it body [] X.env) X.env)).wrap K J gd lv) fs s1
  refine seg_at (seg_bind_wrap (wpAny_holding ?_))
  rw [g.over]
  refine wpAny_mono h1 (fun itv s2 h2 => ?_) fun x s' hx => hx.elim
  obtain ⟨it, fp, tn, Jt, H2, rfl, I2, T, st2, f2, W, ⟨m0, w0⟩, turn⟩ := h2
  have hSf : ∀ b ∈ fp, b ≠ S := fun b hb z => (f2 b hb).2.2.2.2.2 (S, lstObj acc cc) (List.mem_append_right _ List.mem_cons_self) z.symm
  have stat : ∀ {o : Obj} {H' : Hp}, (∀ b ∈ fp, H' b = none) → ∀ b ∈ fp, FpOk X.nox ((S, o) :: ip) H' b := fun {o H'} hn b hb => by
    obtain ⟨_, q1, q2, q3, q4, q5⟩ := f2 b hb
    refine ⟨hn b hb, q1, q2, q3, q4, fun p hp => ?_⟩
    rcases List.mem_append.mp hp with z | z
    · exact q5 p (List.mem_append_left _ z)
    · rcases List.mem_cons.mp z with z | z
      · rw [z]; exact Ne.symm (hSf b hb)
      · exact q5 p (List.mem_append_right _ (List.mem_cons_of_mem _ z))
  unfold runOwn
  refine seg_call fun p => ?_
  have gl := fun (kk : Result → Sem PySem.Fin) => gc_loop (k := kk) (c' := .forLoop tg (.ref it) body [] X.env) (l := lv []) (kp := []) (p := p) g rfl rfl
  have loop : ∀ (m i n : Nat) (ys : List V) (s₀ s : Shared) (σ : L2.St) (H : Hp), n + ys.length = sizeLine → W i m ys σ H → (∀ b ∈ fp, H b = none) → tn i s.heap → GI X S ip ys σ H s →
      Seg (model X.prog X.w) A R (GY X S) n s₀ (.forLoop tg (.ref it) body [] X.env) ((model X.prog X.w).den (.forLoop tg (.ref it) body [] X.env))
        (.ret (fun r => ((match r with | .ok f => (.pure f : Sem Flow) | .error e => .raise e).onRaise (cameBack X.env)).wrap K J gd lv) none (gd false) (lv []) c p [] :: fs) s := by
    intro m
    induction m using Nat.strongRecOn with
    | ind m ih =>
      intro i n ys s₀ s σ H hn w fr st gi
      have ee : ∀ (n : Nat) (s₀ : Shared) (x : Value) (s' : Shared), X.xe x s' → Seg (model X.prog X.w) A R (GY X S) n s₀ (.forLoop tg (.ref it) body [] X.env)
          (((do noteFrame x X.env; theTreesLotGoes x : Sem Unit).bind fun _ => .raise x))
          (.ret (fun r => ((match r with | .ok f => (.pure f : Sem Flow) | .error e => .raise e).onRaise (cameBack X.env)).wrap K J gd lv) none (gd false) (lv []) c p [] :: fs) s' := fun n s₀ x s' hx => by
        rw [Sem.bind_eq_wrap]
        refine seg_wrap ?_
        rw [(gl _).over]
        refine wpAny_bind (wpAny_mono (hp x s' hx) (fun _ s'' hcb => wpAny_theTreesLotGoes ?_) fun y s'' hcb => ?_)
        · exact seg_leaf (.error x) (seg_cameBack g k hcb)
        · exact seg_leaf (.error y) (seg_cameBack g k hcb)
      show Seg _ _ _ _ n s₀ _ ((forTurn tg (.ref it) body [] X.env).onRaise (fun x => do noteFrame x X.env; theTreesLotGoes x)) _ s
      unfold forTurn
      rw [Sem.onRaise_eq_wrap]
      refine seg_bind_wrap (wpAny_standAt (seg_bind_wrap (wpAny_onRaise ?_)))
      rw [(gl _).over]
      obtain ⟨acc, cc, r, I⟩ := gi
      rcases turn i m ys σ H w with ⟨stop, qn⟩ | ⟨go, N, hN, step⟩
      · refine wpAny_mono (T.done X.nox rfl rfl rfl hc i _ s σ H (fun _ _ => False) (I.wish _) (stat fr) st stop) (fun r' s4 ⟨hr, I4⟩ => ?_) fun x s' hx => hx.elim
        subst hr
        refine seg_again rfl ?_
        show Seg _ _ _ _ n s₀ _ (((execs [] X.env).onRaise (fun x => do noteFrame x X.env; theTreesLotGoes x)) >>= fun f => pure (Fin.done f)) _ s4
        exact seg_leaf (.ok .next) (k.ok n ys s₀ s4 .next hn ⟨σ, H, ⟨acc, cc, r, I4.unwish⟩, qn⟩)
      · refine wpAny_mono (T.item X.nox rfl rfl rfl hc i _ s σ H (fun _ _ => False) (I.wish _) (stat fr) st go) (fun r' s4 ⟨u, hr, h4⟩ => ?_) fun x s' hx => hx.elim
        subst hr
        refine seg_bind_wrap ?_
        rw [(gl _).over]
        refine wpAny_mono h4 (fun _ s5 ⟨x, H5, I5, r5, y5, st5, fr5⟩ => ?_) fun x s' hx => hx.elim
        refine seg_bind_wrap ?_
        rw [(gl _).over]
        have I5' := (I5.pinned (stat fr5) (T.obj _ _ st5))
        refine wpAny_mono (hg.run _ s5 σ H5 x u _ I5' r5 (step x H5 y5)) (fun _ s6 ⟨σ6, H6, I6, q6⟩ => ?_) fun x s' hx => hx.elim
        have I6' : Inv X ((S, lstObj acc cc) :: (ip ++ pinsAt fp s5.heap)) σ6 H6 s6 := I6.unwish
        rw [Sem.bind_eq_wrap', Sem.wrap_wrap]
        have gc' : GC X S (ip ++ pinsAt fp s5.heap) A (.forLoop tg (.ref it) body [] X.env) (.ret (fun r => ((match r with | .ok f => (.pure f : Sem Flow) | .error e => .raise e).onRaise (cameBack X.env)).wrap K J gd lv) none (gd false) (lv []) c p [] :: fs) (fun g => id (id g)) :=
          ⟨g.pn, fun q hq => by
            rcases List.mem_append.mp hq with z | z
            · exact g.ip q z
            · exact hSf _ (of_pinsAt z).1, g.apart, (gl _).over, (gl _).split, (gl _).guard, rfl⟩
        refine hb.run A S (ip ++ pinsAt fp s5.heap) R n ys s₀ _ _ _ _ _ _ s6 σ6 H6 { D with nx := N, ct := N, bk := D.nx } gc' hn ⟨fun n' ys' s₀' s7 f hn' hs7 => ?_, fun n' s₀' x s7 hx => ee n' s₀' x s7 hx⟩ ⟨acc, cc, r, I6'⟩ q6
        have drop : ∀ {ys7 : List V} {σ7 : L2.St} {H7 : Hp}, GI X S (ip ++ pinsAt fp s5.heap) ys7 σ7 H7 s7 → GI X S ip ys7 σ7 H7 s7 ∧ tn (i + 1) s7.heap ∧ ∀ b ∈ fp, H7 b = none := fun {ys7 σ7 H7} hG => by
          obtain ⟨acc7, cc7, r7, I7⟩ := hG
          have at7 : ∀ b ∈ fp, ∀ o, s5.heap.get? b = some o → s7.heap.get? b = some o ∧ H7 b = none := fun b hb o e => by
            have z := I7.pin (b, o) (List.mem_append_right _ (List.mem_cons_of_mem _ (List.mem_append_right _ (mem_pinsAt hb e))))
            exact ⟨z.1, z.2.1⟩
          refine ⟨⟨acc7, cc7, r7, I7.pins_of fun q hq => ?_⟩, T.keep _ _ _ st5 fun b hb o e => (at7 b hb o e).1, fun b hb => ?_⟩
          · refine I7.pin q (List.mem_append_right _ ?_)
            rcases List.mem_cons.mp hq with z | z
            · rw [z]; exact List.mem_cons_self
            · exact List.mem_cons_of_mem _ (List.mem_append_left _ z)
          · obtain ⟨o, e, _⟩ := T.obj _ _ st5 b hb
            exact (at7 b hb o e).2
        cases f with
        | next =>
          obtain ⟨σ7, H7, I7, n7⟩ := hs7
          obtain ⟨d1, d2, d3⟩ := drop I7
          obtain ⟨m', hm, w7⟩ := hN _ σ7 H7 n7
          exact seg_again rfl (ih m' hm (i + 1) n' ys' s₀' s7 σ7 H7 hn' w7 d3 d2 d1)
        | cont =>
          obtain ⟨σ7, H7, I7, n7⟩ := hs7
          obtain ⟨d1, d2, d3⟩ := drop I7
          obtain ⟨m', hm, w7⟩ := hN _ σ7 H7 n7
          exact seg_again rfl (ih m' hm (i + 1) n' ys' s₀' s7 σ7 H7 hn' w7 d3 d2 d1)
        | brk =>
          obtain ⟨σ7, H7, I7, q7⟩ := hs7
          exact seg_leaf (.ok .next) (k.ok n' ys' s₀' s7 .next hn' ⟨σ7, H7, (drop I7).1, q7⟩)
        | ret v =>
          obtain ⟨x7, σ7, H7, I7, r7, q7⟩ := hs7
          exact seg_leaf (.ok (.ret v)) (k.ok n' ys' s₀' s7 (.ret v) hn' ⟨x7, σ7, H7, (drop I7).1, r7, q7⟩)
  exact loop m0 0 n ys s₀ s2 σ H2 hn w0 (fun b hb => (f2 b hb).1) st2 ⟨acc, cc, r, I2.unwish⟩
end
end Gt
/-! Who sleeps stays asleep: what runs without waking a generator leaves it as it was. -/
namespace Gf
open PySem PySem.Spec PyProof.Rows L2 GenW
open Sem (wp)
def deadK : Resume → Sem PySem.Fin := fun _ => .unsupported "asleep"
theorem no_dead {M : Model} {w : String} : ∀ {Γ : PySem.Ctx} {p : Pos} {t : Sem PySem.Fin} {fs : List Frame} {s : Shared} {e : End} {s' : Shared}, Runs M Γ p t fs s e s' → t = .unsupported w → False := by
  intro Γ p t fs s e s' h
  induction h with
  | segRet _ _ ih _ => exact ih
  | segGen _ _ ih _ => exact ih
  | segSuspOut _ _ ih => exact ih
  | segSuspGen _ _ _ _ ih _ => exact ih
  | _ => intro z; cases z
/-- the same numbers; those that slept have lost what they would do -/
structure Tw (S : Nat → Prop) (D G : Array GenState) : Prop where
  sz : D.size = G.size
  out : ∀ i, ¬ S i → D[i]? = G[i]?
  inn : ∀ i, S i → ∃ k l c p fs cl, G[i]? = some (.suspended k l c p fs cl) ∧ D[i]? = some (.suspended deadK l c p fs cl)
  fr : ∀ i k l c p fs cl, ¬ S i → G[i]? = some (.suspended k l c p fs cl) → splitAtGen fs = none
abbrev rg (s : Shared) (G : Array GenState) : Shared := { s with gens := G }
/-- who slept (of S) is as before, who runs runs -/
def Kg (S : Nat → Prop) (G G' : Array GenState) : Prop := (∀ i : Nat, S i → G'[i]? = G[i]?) ∧ ∀ i : Nat, G[i]? = some GenState.running → G'[i]? = some GenState.running
theorem Kg.refl {S : Nat → Prop} {G : Array GenState} : Kg S G G := ⟨fun _ _ => rfl, fun _ h => h⟩
theorem Kg.set {S : Nat → Prop} {G : Array GenState} {g : Nat} {x : GenState} (ng : ¬ S g) (hr : G[g]? ≠ some .running) : Kg S G (G.setIfInBounds g x) :=
  ⟨fun i h => by rw [Array.getElem?_setIfInBounds_ne (show g ≠ i from fun z => ng (z ▸ h))], fun i h => by rw [Array.getElem?_setIfInBounds_ne (show g ≠ i from fun z => hr (z ▸ h))]; exact h⟩
theorem Kg.around {S : Nat → Prop} {G G1 : Array GenState} {g : Nat} {x : GenState} (ng : ¬ S g) (hr : G[g]? ≠ some .running) (a : Kg S (G.setIfInBounds g .running) G1) : Kg S G (G1.setIfInBounds g x) := by
  refine ⟨fun i h => ?_, fun i h => ?_⟩
  · have ne : g ≠ i := fun z => ng (z ▸ h)
    rw [Array.getElem?_setIfInBounds_ne ne, a.1 i h, Array.getElem?_setIfInBounds_ne ne]
  · have ne : g ≠ i := fun z => hr (z ▸ h)
    rw [Array.getElem?_setIfInBounds_ne ne]
    exact a.2 i (by rw [Array.getElem?_setIfInBounds_ne ne]; exact h)
theorem Kg.trans {S : Nat → Prop} {G G1 G2 : Array GenState} (a : Kg S G G1) (b : Kg S G1 G2) : Kg S G G2 := ⟨fun i h => (b.1 i h).trans (a.1 i h), fun i h => b.2 i (a.2 i h)⟩
variable {S : Nat → Prop} {D G : Array GenState}
theorem Tw.push (t : Tw S D G) (c : Code) : Tw S (D.push (.fresh c)) (G.push (.fresh c)) ∧ Kg S G (G.push (.fresh c)) := by
  have lt : ∀ i, S i → i < G.size := fun i hi => by
    obtain ⟨k, l, c, p, fs, cl, h, _⟩ := t.inn i hi
    exact (Array.getElem?_eq_some_iff.mp h).1
  have same : ∀ i, S i → (G.push (.fresh c))[i]? = G[i]? := fun i hi => by
    rw [Array.getElem?_push, if_neg (Nat.ne_of_lt (lt i hi))]
  refine ⟨⟨by rw [Array.size_push, Array.size_push, t.sz], fun i hi => ?_, fun i hi => ?_, fun i k l c' p fs cl hi e => ?_⟩, same, fun i h => by rw [Array.getElem?_push, if_neg (Nat.ne_of_lt (Array.getElem?_eq_some_iff.mp h).1)]; exact h⟩
  · rw [Array.getElem?_push, Array.getElem?_push, t.sz, t.out i hi]
  · obtain ⟨k, l, c', p, fs, cl, h1, h2⟩ := t.inn i hi
    refine ⟨k, l, c', p, fs, cl, (same i hi).trans h1, ?_⟩
    rw [Array.getElem?_push, if_neg (by rw [t.sz]; exact Nat.ne_of_lt (lt i hi))]
    exact h2
  · rw [Array.getElem?_push] at e
    split at e
    · cases e
    · exact t.fr i k l c' p fs cl hi e
theorem Tw.set (t : Tw S D G) {g : Nat} (hg : ¬ S g) {x : GenState} (hx : ∀ k l c p fs cl, x = .suspended k l c p fs cl → splitAtGen fs = none) : Tw S (D.setIfInBounds g x) (G.setIfInBounds g x) ∧ ∀ i, S i → (G.setIfInBounds g x)[i]? = G[i]? := by
  have ne : ∀ i, S i → g ≠ i := fun i hi z => hg (z ▸ hi)
  refine ⟨⟨by simp [t.sz], fun i hi => ?_, fun i hi => ?_, fun i k l c p fs cl hi e => ?_⟩, fun i hi => by rw [Array.getElem?_setIfInBounds_ne (ne i hi)]⟩
  · by_cases z : g = i
    · subst z
      simp [Array.getElem?_setIfInBounds, t.sz]
    · rw [Array.getElem?_setIfInBounds_ne z, Array.getElem?_setIfInBounds_ne z, t.out i hi]
  · obtain ⟨k, l, c, p, fs, cl, h1, h2⟩ := t.inn i hi
    exact ⟨k, l, c, p, fs, cl, by rw [Array.getElem?_setIfInBounds_ne (ne i hi)]; exact h1, by rw [Array.getElem?_setIfInBounds_ne (ne i hi)]; exact h2⟩
  · by_cases z : g = i
    · subst z
      rw [Array.getElem?_setIfInBounds] at e
      split at e
      · split at e
        · exact hx k l c p fs cl (Option.some.inj e)
        · cases e
      · rename_i q
        exact (q rfl).elim
    · rw [Array.getElem?_setIfInBounds_ne z] at e
      exact t.fr i k l c p fs cl hi e
theorem Tw.awake (t : Tw S D G) {g : Nat} {x : GenState} (h : D[g]? = some x) (hx : ∀ l c p fs cl, x ≠ .suspended deadK l c p fs cl) : ¬ S g ∧ G[g]? = some x := by
  have ns : ¬ S g := fun hi => by
    obtain ⟨k, l, c, p, fs, cl, _, h2⟩ := t.inn g hi
    rw [h] at h2
    exact hx _ _ _ _ _ (Option.some.inj h2)
  exact ⟨ns, by rw [← t.out g ns]; exact h⟩
theorem Tw.seen (t : Tw S D G) {g : Nat} {x : GenState} (h : D[g]? = some x) : ∃ y, G[g]? = some y ∧ y.seen = x.seen := by
  by_cases hi : S g
  · obtain ⟨k, l, c, p, fs, cl, h1, h2⟩ := t.inn g hi
    rw [h] at h2
    cases h2
    exact ⟨_, h1, rfl⟩
  · exact ⟨x, by rw [← t.out g hi]; exact h, rfl⟩
/-- frames of no generator -/
def EndOk : End → Prop
  | .ret _ => True
  | .susp _ _ _ _ _ _ fs => splitAtGen fs = none
theorem split_app : ∀ {a b : List Frame}, splitAtGen a = none → splitAtGen b = none → splitAtGen (a ++ b) = none
  | [], b, _, h => h
  | .gen .. :: a, b, h, _ => by cases h
  | .ret k h g l c p kp :: a, b, e, f => by
    have e : (splitAtGen a).map _ = none := e
    show (splitAtGen (a ++ b)).map _ = none
    rw [Option.map_eq_none_iff] at e ⊢
    exact split_app e f
theorem EndOk.gs {e : End} (h : EndOk e) : ∀ k l c p fs cl, e.genState = .suspended k l c p fs cl → splitAtGen fs = none := by
  intro k l c p fs cl z
  cases e with
  | ret r => cases z
  | susp v g0 l0 k0 c0 p0 fs0 =>
    cases z
    exact h
/-- what can be known of a run -/
abbrev Sim (S : Nat → Prop) (M : Model) (Γ : PySem.Ctx) (p : Pos) (t : Sem PySem.Fin) (fs : List Frame) (s : Shared) (e : End) (s' : Shared) : Prop :=
  ∀ G, Tw S s.gens G → splitAtGen fs = none → ∃ G', Runs M Γ p t fs (rg s G) e (rg s' G') ∧ Tw S s'.gens G' ∧ Kg S G G' ∧ EndOk e
theorem sim {M : Model} {Γ : PySem.Ctx} {p : Pos} {t : Sem PySem.Fin} {fs : List Frame} {s : Shared} {e : End} {s' : Shared} (h : Runs M Γ p t fs s e s') : Sim S M Γ p t fs s e s' := by
  induction h with
  | done => exact fun G t _ => ⟨G, .done, t, .refl, trivial⟩
  | raise => exact fun G t _ => ⟨G, .raise, t, .refl, trivial⟩
  | again hq _ ih => exact fun G t f => let ⟨G', r, a⟩ := ih G t f; ⟨G', .again hq r, a⟩
  | rule _ ih => exact fun G t f => let ⟨G', r, a⟩ := ih G t f; ⟨G', .rule r, a⟩
  | «at» _ ih => exact fun G t f => let ⟨G', r, a⟩ := ih G t f; ⟨G', .at r, a⟩
  | load ho _ ih => exact fun G t f => let ⟨G', r, a⟩ := ih G t f; ⟨G', .load ho r, a⟩
  | update ho _ ih => exact fun G t f => let ⟨G', r, a⟩ := ih G t f; ⟨G', .update ho r, a⟩
  | loadIfAlive _ ih => exact fun G t f => let ⟨G', r, a⟩ := ih G t f; ⟨G', .loadIfAlive r, a⟩
  | point _ ih => exact fun G t f => let ⟨G', r, a⟩ := ih G t f; ⟨G', .point r, a⟩
  | alloc _ ih => exact fun G t f => let ⟨G', r, a⟩ := ih G t f; ⟨G', .alloc r, a⟩
  | fresh _ ih => exact fun G t f => let ⟨G', r, a⟩ := ih G t f; ⟨G', .fresh r, a⟩
  | ask _ ih => exact fun G t f => let ⟨G', r, a⟩ := ih G t f; ⟨G', .ask r, a⟩
  | choose hn _ ih => exact fun G t f => let ⟨G', r, a⟩ := ih G t f; ⟨G', .choose hn r, a⟩
  | os _ ih => exact fun G t f => let ⟨G', r, a⟩ := ih G t f; ⟨G', .os r, a⟩
  | handled _ ih => exact fun G t f => let ⟨G', r, a⟩ := ih G t f; ⟨G', .handled r, a⟩
  | stack _ ih => exact fun G t f => let ⟨G', r, a⟩ := ih G t f; ⟨G', .stack r, a⟩
  | thread _ ih => exact fun G t f => let ⟨G', r, a⟩ := ih G t f; ⟨G', .thread r, a⟩
  | genState hs _ ih =>
    intro G t f
    obtain ⟨y, hy, ey⟩ := t.seen hs
    obtain ⟨G', r, a⟩ := ih G t f
    rw [← ey] at r
    exact ⟨G', .genState hy r, a⟩
  | newGen _ ih =>
    intro G t f
    obtain ⟨G', r, a1, a2, a3⟩ := ih _ (t.push _).1 f
    rw [t.sz] at r
    exact ⟨G', .newGen r, a1, (t.push _).2.trans a2, a3⟩
  | call _ _ ih1 ih2 =>
    intro G t f
    obtain ⟨G1, r1, a1, a2, _⟩ := ih1 G t rfl
    obtain ⟨G2, r2, b1, b2, b3⟩ := ih2 G1 a1 f
    exact ⟨G2, .call r1 r2, b1, a2.trans b2, b3⟩
  | callSusp _ ih1 =>
    intro G t f
    obtain ⟨G1, r1, a1, a2, a3⟩ := ih1 G t rfl
    exact ⟨G1, .callSusp r1, a1, a2, split_app a3 rfl⟩
  | yield => exact fun G t f => ⟨G, .yield, t, .refl, rfl⟩
  | @resumeFresh Γ p g l k s c e1 s1 e s' hs _ hq _ ih1 ih2 =>
    intro G t f
    obtain ⟨ng, hG⟩ := t.awake hs (fun _ _ _ _ _ z => by cases z)
    obtain ⟨t1, k1⟩ := t.set ng (x := .running) (fun _ _ _ _ _ _ z => by cases z)
    obtain ⟨G1, r1, a1, a2, a3⟩ := ih1 _ t1 rfl
    obtain ⟨t2, k2⟩ := a1.set ng (x := e1.genState) a3.gs
    obtain ⟨G2, r2, b1, b2, b3⟩ := ih2 _ t2 f
    exact ⟨G2, .resumeFresh (s := rg s G) (s₁ := rg s1 G1) hG r1 hq r2, b1, (Kg.around ng (by rw [hG]; exact fun z => by cases z) a2).trans b2, b3⟩
  | @resumeSuspended Γ p g r l k s k0 l0 c0 p0 fs0 cl e1 s1 e s' hs h1 hq _ ih1 ih2 =>
    intro G t f
    have nd : ∀ l c p fs cl', GenState.suspended k0 l0 c0 p0 fs0 cl ≠ .suspended deadK l c p fs cl' := fun _ _ _ _ _ z => by
      cases z
      exact no_dead h1 rfl
    obtain ⟨ng, hG⟩ := t.awake hs nd
    obtain ⟨t1, k1⟩ := t.set ng (x := .running) (fun _ _ _ _ _ _ z => by cases z)
    obtain ⟨G1, r1, a1, a2, a3⟩ := ih1 _ t1 (t.fr _ _ _ _ _ _ _ ng hG)
    obtain ⟨t2, k2⟩ := a1.set ng (x := e1.genState) a3.gs
    obtain ⟨G2, r2, b1, b2, b3⟩ := ih2 _ t2 f
    exact ⟨G2, .resumeSuspended (s := rg s G) (s₁ := rg s1 G1) hG r1 hq r2, b1, (Kg.around ng (by rw [hG]; exact fun z => by cases z) a2).trans b2, b3⟩
  | resumeJustStarted hs hv _ ih =>
    intro G t f
    obtain ⟨ng, hG⟩ := t.awake hs (fun _ _ _ _ _ z => by cases z)
    obtain ⟨G', r, a⟩ := ih G t f
    exact ⟨G', .resumeJustStarted hG hv r, a⟩
  | resumeThrowFresh hs _ ih =>
    intro G t f
    obtain ⟨ng, hG⟩ := t.awake hs (fun _ _ _ _ _ z => by cases z)
    obtain ⟨t1, k1⟩ := t.set ng (x := .finished) (fun _ _ _ _ _ _ z => by cases z)
    obtain ⟨G', r, a1, a2, a3⟩ := ih _ t1 f
    exact ⟨G', .resumeThrowFresh (s := rg _ G) hG r, a1, (Kg.set ng (by rw [hG]; exact fun z => by cases z)).trans a2, a3⟩
  | resumeRunning hs _ ih =>
    intro G t f
    obtain ⟨ng, hG⟩ := t.awake hs (fun _ _ _ _ _ z => by cases z)
    obtain ⟨G', r, a⟩ := ih G t f
    exact ⟨G', .resumeRunning hG r, a⟩
  | resumeFinished hs _ ih =>
    intro G t f
    obtain ⟨ng, hG⟩ := t.awake hs (fun _ _ _ _ _ z => by cases z)
    obtain ⟨G', r, a⟩ := ih G t f
    exact ⟨G', .resumeFinished hG r, a⟩
  | @segRet Γ p t k h g l c1 p1 kp fs s r s1 e s' _ _ ih1 ih2 =>
    intro G t f
    have f' : splitAtGen fs = none := by
      have f : (splitAtGen fs).map _ = none := f
      rwa [Option.map_eq_none_iff] at f
    obtain ⟨G1, r1, a1, a2, _⟩ := ih1 G t rfl
    obtain ⟨G2, r2, b1, b2, b3⟩ := ih2 G1 a1 f'
    exact ⟨G2, .segRet r1 r2, b1, a2.trans b2, b3⟩
  | segGen _ _ _ _ =>
    intro G t f
    cases f
  | segSuspOut hn _ ih1 =>
    intro G t f
    obtain ⟨G1, r1, a1, a2, a3⟩ := ih1 G t rfl
    exact ⟨G1, .segSuspOut hn r1, a1, a2, split_app a3 hn⟩
  | segSuspGen hn _ _ _ _ _ =>
    intro G t f
    rw [f] at hn
    cases hn
theorem simW {M : Model} {Γ : PySem.Ctx} {p : Pos} {g : Nat} {r : Resume} {s s' : Shared} {res : GenResult} (h : Wakes M Γ p g r s res s') (t : Tw S s.gens G) : ∃ G', Wakes M Γ p g r (rg s G) res (rg s' G') ∧ Tw S s'.gens G' ∧ Kg S G G' := by
  unfold Wakes at h
  split at h
  · exact h.elim
  · rename_i c hs
    obtain ⟨ng, hG⟩ := t.awake hs (fun _ _ _ _ _ z => by cases z)
    have hG' : (rg s G).gens[g]? = some (.fresh c) := hG
    split at h
    · obtain ⟨e1, s1, hr, hq, rfl, rfl⟩ := h
      obtain ⟨t1, k1⟩ := t.set ng (x := .running) (fun _ _ _ _ _ _ z => by cases z)
      obtain ⟨G1, r1, a1, a2, a3⟩ := sim hr _ t1 rfl
      obtain ⟨t2, k2⟩ := a1.set ng (x := e1.genState) a3.gs
      refine ⟨_, ?_, t2, Kg.around ng (by rw [hG]; exact fun z => by cases z) a2⟩
      unfold Wakes
      rw [hG']
      exact ⟨e1, rg s1 G1, r1, hq, rfl, rfl⟩
    · rename_i v hv
      obtain ⟨rfl, rfl⟩ := h
      refine ⟨G, ?_, t, .refl⟩
      unfold Wakes
      rw [hG']
      cases v <;> first | exact (hv rfl).elim | exact ⟨rfl, rfl⟩
    · obtain ⟨rfl, rfl⟩ := h
      obtain ⟨t1, k1⟩ := t.set ng (x := .finished) (fun _ _ _ _ _ _ z => by cases z)
      refine ⟨_, ?_, t1, Kg.set ng (by rw [hG]; exact fun z => by cases z)⟩
      unfold Wakes
      rw [hG']
      exact ⟨rfl, rfl⟩
  · rename_i k0 l0 c0 p0 fs0 cl hs
    obtain ⟨e1, s1, hr, hq, rfl, rfl⟩ := h
    have nd : ∀ l c p fs cl', GenState.suspended k0 l0 c0 p0 fs0 cl ≠ .suspended deadK l c p fs cl' := fun _ _ _ _ _ z => by
      cases z
      exact no_dead hr rfl
    obtain ⟨ng, hG⟩ := t.awake hs nd
    have hG' : (rg s G).gens[g]? = some (.suspended k0 l0 c0 p0 fs0 cl) := hG
    obtain ⟨t1, k1⟩ := t.set ng (x := .running) (fun _ _ _ _ _ _ z => by cases z)
    obtain ⟨G1, r1, a1, a2, a3⟩ := sim hr _ t1 (t.fr _ _ _ _ _ _ _ ng hG)
    obtain ⟨t2, k2⟩ := a1.set ng (x := e1.genState) a3.gs
    refine ⟨_, ?_, t2, Kg.around ng (by rw [hG]; exact fun z => by cases z) a2⟩
    unfold Wakes
    rw [hG']
    exact ⟨e1, rg s1 G1, r1, hq, rfl, rfl⟩
  · rename_i hs
    obtain ⟨rfl, rfl⟩ := h
    obtain ⟨ng, hG⟩ := t.awake hs (fun _ _ _ _ _ z => by cases z)
    refine ⟨G, ?_, t, .refl⟩
    have hG' : (rg s' G).gens[g]? = some .running := hG
    unfold Wakes
    rw [hG']
    exact ⟨rfl, rfl⟩
  · rename_i hs
    obtain ⟨rfl, rfl⟩ := h
    obtain ⟨ng, hG⟩ := t.awake hs (fun _ _ _ _ _ z => by cases z)
    refine ⟨G, ?_, t, .refl⟩
    have hG' : (rg s' G).gens[g]? = some .finished := hG
    unfold Wakes
    rw [hG']
    exact ⟨rfl, rfl⟩
/-- a state beside its twin: only those that sleep differ -/
abbrev Bs (S : Nat → Prop) (G : Array GenState) (Φ : Shared → Prop) (s' : Shared) : Prop := ∃ D, Φ (rg s' D) ∧ Tw S D s'.gens ∧ Kg S G s'.gens
theorem Bs.back {Φ : Shared → Prop} {G1 : Array GenState} {s' : Shared} (h : Bs S G1 Φ s') (k : Kg S G G1) : Bs S G Φ s' :=
  let ⟨D, a, b, c⟩ := h; ⟨D, a, b, k.trans c⟩
theorem wp_sim {α : Type} (M : Model) (Γ : PySem.Ctx) (t : Sem α) : ∀ (Q : α → Pos → Shared → Prop) (E : Value → Pos → Shared → Prop) (p : Pos) (s : Shared) (G : Array GenState), Tw S s.gens G → wp M Γ t Q E p s →
    wp M Γ t (fun a p' => Bs S G (Q a p')) (fun e p' => Bs S G (E e p')) p (rg s G) := by
  induction t with
  | pure a => exact fun Q E p s G t h => ⟨s.gens, h, t, .refl⟩
  | raise e => exact fun Q E p s G t h => ⟨s.gens, h, t, .refl⟩
  | unsupported _ => exact fun Q E p s G t h => h
  | finish _ => exact fun Q E p s G t h => h
  | register _ _ => exact fun Q E p s G t h => h
  | yield _ _ _ _ => exact fun Q E p s G t h => h
  | fork _ _ => exact fun Q E p s G t h => h
  | await _ _ _ _ _ => exact fun Q E p s G t h => h
  | rule _ k ih => exact fun Q E p s G t h => ih () Q E p s G t h
  | «at» p' k ih => exact fun Q E p s G t h => ih () Q E p' s G t h
  | load a _ k ih => exact fun Q E p s G t h => let ⟨o, ho, h⟩ := h; ⟨o, ho, ih o Q E p s G t h⟩
  | update a _ f k ih => exact fun Q E p s G t h => ⟨h.1, ih () Q E p { s with heap := s.heap.update a f } G t h.2⟩
  | loadIfAlive a k ih => exact fun Q E p s G t h => ih _ Q E p s G t h
  | point _ k ih => exact fun Q E p s G t h => ih () Q E p s G t h
  | alloc o k ih => exact fun Q E p s G t h => ih s.heap.objs.size Q E p { s with heap := s.heap.push o } G t h
  | fresh k ih => exact fun Q E p s G t h => ih s.toks Q E p { s with toks := s.toks + 1 } G t h
  | ask k ih => exact fun Q E p s G t h => ih _ Q E p s G t h
  | choose src m k ih => exact fun Q E p s G t h => ⟨h.1, ih _ Q E p { s with drawn := s.drawn.bump src } G t h.2⟩
  | os q _ k ih => exact fun Q E p s G t h => ih _ Q E p { s with os := (Os.step s.os q).1 } G t h
  | handled own k ih => exact fun Q E p s G t h => ih _ Q E p s G t h
  | stack k ih => exact fun Q E p s G t h => ih _ Q E p s G t h
  | thread k ih => exact fun Q E p s G t h => ih _ Q E p s G t h
  | call c hd _ _ k ih =>
    intro Q E p s G t h
    obtain ⟨r, s', hr, h⟩ := h
    obtain ⟨G1, r1, a1, a2, _⟩ := sim hr G t rfl
    exact ⟨r, rg s' G1, r1, Sem.wp_mono M Γ _ (fun a p' s'' z => Bs.back z a2) (fun e p' s'' z => Bs.back z a2) p _ (ih r Q E p s' G1 a1 h)⟩
  | genState g k ih =>
    intro Q E p s G t h
    obtain ⟨st, hs, h⟩ := h
    obtain ⟨y, hy, ey⟩ := t.seen hs
    refine ⟨y, hy, ?_⟩
    rw [ey]
    exact ih _ Q E p s G t h
  | newGen c k ih =>
    intro Q E p s G t h
    have z := ih s.gens.size Q E p { s with gens := s.gens.push (.fresh c) } _ (t.push c).1 h
    rw [t.sz] at z
    exact Sem.wp_mono M Γ _ (fun a p' s'' z => Bs.back z (t.push c).2) (fun e p' s'' z => Bs.back z (t.push c).2) p _ z
  | resume g r _ k ih =>
    intro Q E p s G t h
    obtain ⟨res, s', hw, h⟩ := h
    obtain ⟨G1, r1, a1, a2⟩ := simW hw t
    exact ⟨res, rg s' G1, r1, Sem.wp_mono M Γ _ (fun a p' s'' z => Bs.back z a2) (fun e p' s'' z => Bs.back z a2) p _ (ih res Q E p s' G1 a1 h)⟩
/-- those that sleep -/
def slp (G : Array GenState) (i : Nat) : Prop := ∃ k l c p fs cl, G[i]? = some (.suspended k l c p fs cl)
def dead : GenState → GenState
  | .suspended _ l c p fs cl => .suspended deadK l c p fs cl
  | x => x
theorem twin (G : Array GenState) : Tw (slp G) (G.map dead) G := by
  refine ⟨by simp, fun i hi => ?_, fun i hi => ?_, fun i k l c p fs cl hi e => (hi ⟨k, l, c, p, fs, cl, e⟩).elim⟩
  · rw [Array.getElem?_map]
    cases e : G[i]? with
    | none => rfl
    | some x =>
      cases x with
      | suspended k l c p fs cl => exact (hi ⟨k, l, c, p, fs, cl, e⟩).elim
      | _ => rfl
  · obtain ⟨k, l, c, p, fs, cl, e⟩ := hi
    exact ⟨k, l, c, p, fs, cl, e, by rw [Array.getElem?_map, e]; rfl⟩
theorem bare_dead {G : Array GenState} (h : AllBare G) : AllBare (G.map dead) := fun x hx => by
  obtain ⟨y, hy, rfl⟩ := Array.mem_map.mp hx
  have := h y hy
  cases y <;> exact this
theorem bare_back {G G' D : Array GenState} (h : AllBare G) (hD : AllBare D) (t : Tw (slp G) D G') (k : Kg (slp G) G G') : AllBare G' := fun x hx => by
  obtain ⟨i, hi, e⟩ := Array.mem_iff_getElem.mp hx
  have e' : G'[i]? = some x := by rw [Array.getElem?_eq_getElem hi, e]
  by_cases z : slp G i
  · rw [k.1 i z] at e'
    exact h x (Array.mem_of_getElem? e')
  · rw [← t.out i z] at e'
    exact hD x (Array.mem_of_getElem? e')
/-- a state with other generators, all else the same -/
theorem inv_rg {X : Cx} {pins : List (Addr × Obj)} {σ : L2.St} {H : Hp} {s : Shared} {G : Array GenState} (I : Inv X pins σ H s) (h : AllBare G) : Inv X pins σ H (rg s G) :=
  ⟨I.ok, I.os, h, I.base, I.loc, I.cell, I.free, I.freeC, I.pin, I.hok, I.len⟩
/-- THE POINT: what holds after any run from such a state holds after this one; who slept sleeps as before, who runs runs -/
theorem asleep {α : Type} {M : Model} {A : Around} {t : Sem α} {Q : α → Shared → Prop} {E : Value → Shared → Prop} {s : Shared} (hb : AllBare s.gens) (h : wpAny M A t Q E (rg s (s.gens.map dead))) :
    wpAny M A t (fun a s' => ∃ D, Q a (rg s' D) ∧ (AllBare D → AllBare s'.gens) ∧ Kg (slp s.gens) s.gens s'.gens) (fun e s' => ∃ D, E e (rg s' D) ∧ (AllBare D → AllBare s'.gens) ∧ Kg (slp s.gens) s.gens s'.gens) s := fun Γ p hΓ =>
  Sem.wp_mono M Γ t (fun a p' s' ⟨D, q, tw, k⟩ => ⟨D, q, fun hD => bare_back hb hD tw k, k⟩) (fun e p' s' ⟨D, q, tw, k⟩ => ⟨D, q, fun hD => bare_back hb hD tw k, k⟩) p s (wp_sim M Γ t _ _ p (rg s (s.gens.map dead)) s.gens (twin s.gens) (h Γ p hΓ))
end Gf
/-! What a generator does from one turn to the next, with what each turn knows. -/
namespace Gf
open PySem PySem.Spec PyProof.Rows L2 GenW
open Sem (wp)
/-- known at a turn: the tuples, what is the generator's own, the numbers of those that it walks itself -/
structure Gh where
  T : Hp
  fp : List Addr
  gs : List Nat
structure Prot where
  En : Gh → Shared → Result → Shared → Prop
  Yd : Gh → PyData → Shared → Value → Shared → Gh → Prop
  Ok : Gh → Shared → Shared → Prop
def Sg (M : Model) (A : Around) (Pr : Prot) : List PyData → Gh → Shared → Code → Sem PySem.Fin → List Frame → Shared → Prop
  | [] => fun g s0 c t fs s => ∀ (Γ : PySem.Ctx) (p : Pos), Γ.code = c → Γ.Woken A → ∃ e s', Runs M Γ p t fs s e s' ∧ ∃ r, e = .ret r ∧ Pr.En g s0 r s'
  | d :: rest => fun g s0 c t fs s => ∀ (Γ : PySem.Ctx) (p : Pos), Γ.code = c → Γ.Woken A → ∃ e s', Runs M Γ p t fs s e s' ∧ ∃ v gd l k c' p' fs' g', e = .susp v gd l k c' p' fs' ∧ e.quiet = true ∧ Pr.Yd g d s0 v s' g' ∧
      ∀ s'', Pr.Ok g' s' s'' → Sg M A Pr rest g' s'' c' (k (.send .none)) fs' s''
def SgEnd (M : Model) (A : Around) (Pr : Prot) : List PyData → Gh → Shared → End → Shared → Prop
  | [] => fun g s0 e s' => ∃ r, e = .ret r ∧ Pr.En g s0 r s'
  | d :: rest => fun g s0 e s' => ∃ v gd l k c' p' fs' g', e = .susp v gd l k c' p' fs' ∧ e.quiet = true ∧ Pr.Yd g d s0 v s' g' ∧ ∀ s'', Pr.Ok g' s' s'' → Sg M A Pr rest g' s'' c' (k (.send .none)) fs' s''
section
variable {M : Model} {A : Around} {Pr : Prot} {rest : List PyData} {g : Gh} {s0 : Shared} {c : Code} {fs : List Frame} {s : Shared}
theorem sg_iff {t : Sem PySem.Fin} : Sg M A Pr rest g s0 c t fs s ↔ ∀ (Γ : PySem.Ctx) (p : Pos), Γ.code = c → Γ.Woken A → ∃ e s', Runs M Γ p t fs s e s' ∧ SgEnd M A Pr rest g s0 e s' := by
  cases rest <;> rfl
theorem sg_wrap {α : Type} {m : Sem α} {K : α → Sem PySem.Fin} {J : Value → Sem PySem.Fin} {gd : Bool → Bool} {lv : List Value → List Value}
    (h : wpAny M (A.over c fs) m (fun a s' => Sg M A Pr rest g s0 c (K a) fs s') (fun x s' => Sg M A Pr rest g s0 c (J x) fs s') s) : Sg M A Pr rest g s0 c (m.wrap K J gd lv) fs s := by
  refine sg_iff.mpr fun Γ p hc hΓ => ?_
  subst hc
  exact runs_wrap_of_wp K J gd lv m (h (Γ.over fs) p (hΓ.over fs)) (fun a q u z => sg_iff.mp z Γ q rfl hΓ) fun x q u z => sg_iff.mp z Γ q rfl hΓ
theorem sg_bw {α β : Type} {m : Sem α} {f : α → Sem β} {K : β → Sem PySem.Fin} {J : Value → Sem PySem.Fin} {gd : Bool → Bool} {lv : List Value → List Value}
    (h : wpAny M (A.over c fs) m (fun a s' => Sg M A Pr rest g s0 c ((f a).wrap K J gd lv) fs s') (fun x s' => Sg M A Pr rest g s0 c (J x) fs s') s) : Sg M A Pr rest g s0 c ((m >>= f).wrap K J gd lv) fs s := by
  rw [Sem.bind_eq_wrap', Sem.wrap_wrap]
  exact sg_wrap h
theorem sg_at {q : Pos} {k : Unit → Sem PySem.Fin} (h : Sg M A Pr rest g s0 c (k ()) fs s) : Sg M A Pr rest g s0 c (.at q k) fs s :=
  sg_wrap (m := standAt q) (K := k) (J := .raise) (gd := id) (lv := id) (wpAny_standAt h)
theorem sg_point {l : List Value} {k : Unit → Sem PySem.Fin} (h : Sg M A Pr rest g s0 c (k ()) fs s) : Sg M A Pr rest g s0 c (.point l k) fs s :=
  sg_wrap (m := point) (K := k) (J := .raise) (gd := id) (lv := fun _ => l) (wpAny_point h)
theorem sg_call {c' : Code} {h : Option Value} {gd : Bool} {l : List Value} {k : Result → Sem PySem.Fin} (hc : ∀ p, Sg M A Pr rest g s0 c' (M.den c') (.ret k h gd l c p [] :: fs) s) : Sg M A Pr rest g s0 c (.call c' h gd l k) fs s := by
  refine sg_iff.mpr fun Γ p e hΓ => ?_
  subst e
  obtain ⟨e, u, hr, he⟩ := sg_iff.mp (hc p) (Γ.goto c') p rfl (hΓ.goto c')
  exact ⟨e, u, runs_call_seg hr, he⟩
theorem sg_leaf {k : Result → Sem PySem.Fin} {h : Option Value} {gd : Bool} {l kp : List Value} {c1 : Code} {p1 : Pos} (r : Result) (hk : Sg M A Pr rest g s0 c1 (k r) fs s) : Sg M A Pr rest g s0 c (leafOf r) (.ret k h gd l c1 p1 kp :: fs) s := by
  refine sg_iff.mpr fun Γ p e hΓ => ?_
  subst e
  obtain ⟨e, u, hr, he⟩ := sg_iff.mp hk (Γ.goto c1) p1 rfl (hΓ.goto c1)
  exact ⟨e, u, Runs.pop r hr, he⟩
theorem sg_again {c' : Code} (hq : c'.quiet = true) (hc : Sg M A Pr rest g s0 c' (M.den c') fs s) : Sg M A Pr rest g s0 c (.pure (.again c')) fs s := by
  refine sg_iff.mpr fun Γ p e hΓ => ?_
  subst e
  obtain ⟨e, u, hr, he⟩ := sg_iff.mp hc (Γ.goto c') p rfl (hΓ.goto c')
  exact ⟨e, u, Runs.head (c₁ := c') (fun _ _ x => .again hq x) hr, he⟩
theorem sg_end (r : Result) (h : Pr.En g s0 r s) : Sg M A Pr [] g s0 c (leafOf r) [] s := fun Γ p e _ => ⟨.ret r, s, Runs.leaf r, r, rfl, h⟩
theorem sg_yield {d : PyData} {g' : Gh} {v : Value} {gd : Bool} {l : List Value} {k : Resume → Sem PySem.Fin} (hfs : splitAtGen fs = none) (hg : gd = false) (hfg : fs.any Frame.guarded = false) (hy : Pr.Yd g d s0 v s g')
    (h : ∀ s'', Pr.Ok g' s s'' → Sg M A Pr rest g' s'' c (k (.send .none)) fs s'') : Sg M A Pr (d :: rest) g s0 c (.yield v gd l k) fs s := by
  intro Γ p e _
  subst e
  exact ⟨_, s, Runs.yield' fs hfs, v, gd, l, k, _, p, fs, g', rfl, by simp [End.quiet, hg, hfg], hy, h⟩
end
section
variable {M : Model} {A : Around} {Pr : Prot} {rest : List PyData} {g : Gh} {s0 : Shared} {c : Code} {fs : List Frame} {s : Shared} {env : Env} {K : Flow → Sem PySem.Fin} {J : Value → Sem PySem.Fin} {gd : Bool → Bool} {lv : List Value → List Value}
theorem sg_nil (h : Sg M A Pr rest g s0 c (K .next) fs s) : Sg M A Pr rest g s0 c ((execs [] env).wrap K J gd lv) fs s := h
theorem sg_cons {st : Stmt} {more : List Stmt} (h : Sg M A Pr rest g s0 c ((exec st env).wrap (fun f => match f with | .next => (execs more env).wrap K J gd lv | f => K f) J gd lv) fs s) : Sg M A Pr rest g s0 c ((execs (st :: more) env).wrap K J gd lv) fs s := by
  rw [execs_cons_wrap]
  exact h
theorem sg_Yield {e : Expr} {yp pos : Pos} {d : PyData} (hfs : splitAtGen fs = none) (hgd : gd false = false) (hfg : fs.any Frame.guarded = false)
    (h : wpAny M (A.over c fs) (eval e env) (fun v s' => ∃ g', Pr.Yd g d s0 v s' g' ∧ ∀ s'', Pr.Ok g' s' s'' → Sg M A Pr rest g' s'' c (K .next) fs s'') (fun x s' => Sg M A Pr (d :: rest) g s0 c (J x) fs s') s)
    (hco : env.scope.isCoroutine = false := by rfl) (hi : interactive env = false := by rfl) : Sg M A Pr (d :: rest) g s0 c ((exec (.Expr (.Yield (some e) yp) pos) env).wrap K J gd lv) fs s := by
  rw [exec_Expr env _ pos hi rfl]
  show Sg M A Pr (d :: rest) g s0 c (.at pos fun _ => ((eval e env >>= fun v => (standAt yp >>= fun _ => yieldOut env v)) >>= fun x => dropValue (.Yield (some e) yp) pos x).wrap K J gd lv) fs s
  have hy : ∀ v, yieldOut env v = yieldValue v := fun v => by simp only [yieldOut, hco, Bool.false_eq_true, if_false]
  simp only [hy]
  refine sg_at ?_
  rw [Sem.bind_eq_wrap', Sem.bind_eq_wrap', Sem.wrap_wrap, Sem.wrap_wrap]
  refine sg_wrap (wpAny_mono h (fun v u ⟨g', a, b⟩ => ?_) fun _ _ x => x)
  exact sg_at (sg_yield hfs hgd hfg a fun s'' z => b s'' z)
end
section
variable {prog : Program} {w : World} {A : Around} {Pr : Prot} {rest : List PyData} {g : Gh} {s0 : Shared} {fs : List Frame} {s : Shared} {env : Env}
theorem sg_func {body : List Stmt} (h : Sg (model prog w) A Pr rest g s0 (.func body env) ((execs body env).wrap (fun f => .pure (.done (.ret (match f with | .ret v => v | _ => .none)))) (fun e => (leaving env e).wrap (fun _ => .raise e) .raise id id) id id) fs s) :
    Sg (model prog w) A Pr rest g s0 (.func body env) ((model prog w).den (.func body env)) fs s := by
  show Sg _ A Pr rest g s0 _ (.point [] fun _ => ((execs body env).onRaise (leaving env)) >>= _) fs s
  refine sg_point ?_
  rw [Sem.onRaise_eq_wrap, Sem.bind_eq_wrap', Sem.wrap_wrap]
  rw [Sem.wrap_congr (execs body env) _ _ (K' := fun f => .pure (.done (.ret (match f with | .ret v => v | _ => .none)))) (H' := fun e => (leaving env e).wrap (fun _ => .raise e) .raise id id) (fun f => by cases f <;> rfl) (fun e => by rw [Sem.bind_eq_wrap, Sem.wrap_wrap]; rfl)]
  exact h
/-- a while's turn; nothing is raised -/
theorem sg_turn {test : Expr} {body : List Stmt}
    (h : wpAny (model prog w) (A.over (.whileLoop test body [] env) fs) (isTrue test env (eval test env)) (fun b u => if b = true then
          Sg (model prog w) A Pr rest g s0 (.whileLoop test body [] env) ((execs body env).wrap (fun f => match f with
            | .next | .cont => .pure (.again (.whileLoop test body [] env))
            | .brk => .pure (.done .next)
            | .ret v => .pure (.done (.ret v))) (fun e => (do noteFrame e env; theTreesLotGoes e : Sem Unit).wrap (fun _ => .raise e) .raise id id) id id) fs u
        else Sg (model prog w) A Pr rest g s0 (.whileLoop test body [] env) (.pure (.done .next)) fs u) (fun _ _ => False) s) :
    Sg (model prog w) A Pr rest g s0 (.whileLoop test body [] env) ((model prog w).den (.whileLoop test body [] env)) fs s := by
  show Sg _ A Pr rest g s0 _ ((whileTurn test body [] env).onRaise (fun x => do noteFrame x env; theTreesLotGoes x)) fs s
  unfold whileTurn
  rw [Sem.onRaise_eq_wrap, Sem.bind_eq_wrap', Sem.wrap_wrap]
  refine sg_wrap (wpAny_mono h (fun b u hb => ?_) fun x u hx => hx.elim)
  cases b with
  | true =>
    rw [if_pos rfl] at hb
    show Sg _ A Pr rest g s0 _ (Sem.wrap _ _ _ _ (if true = true then _ else _)) fs u
    rw [if_pos rfl, Sem.bind_eq_wrap', Sem.wrap_wrap]
    rw [Sem.wrap_congr (execs body env) _ _ (K' := fun f => match f with
            | .next | .cont => .pure (.again (.whileLoop test body [] env))
            | .brk => .pure (.done .next)
            | .ret v => .pure (.done (.ret v))) (H' := (fun e => (do noteFrame e env; theTreesLotGoes e : Sem Unit).wrap (fun _ => .raise e) .raise id id)) (fun f => by cases f <;> rfl)
        (fun e => by first | exact Sem.bind_eq_wrap _ _ | (show (do noteFrame e env; theTreesLotGoes e : Sem Unit).bind (fun _ => .raise e) = _; rw [Sem.bind_eq_wrap]))]
    exact hb
  | false =>
    rw [if_neg Bool.false_ne_true] at hb
    show Sg _ A Pr rest g s0 _ (Sem.wrap _ _ _ _ (if false = true then _ else _)) fs u
    rw [if_neg Bool.false_ne_true, Sem.bind_eq_wrap', Sem.wrap_wrap]
    exact sg_nil hb
end
/-! ### a turn from outside -/
def Goes (M : Model) (A : Around) (Pr : Prot) (rest : List PyData) (g : Gh) (x : GenState) (s : Shared) : Prop :=
  match x with
  | .fresh c => Sg M A Pr rest g s c (M.den c) [] s
  | .suspended k _ c _ fs _ => Sg M A Pr rest g s c (k (.send .none)) fs s
  | _ => False
section
variable {M : Model} {A : Around} {Pr : Prot} {rest : List PyData} {g : Gh}
theorem goes_run {Γ : PySem.Ctx} {p : Pos} {n : Nat} {x : GenState} {s : Shared} {Φ : GenResult → Shared → Prop} (hΓ : Γ.In A) (hx : s.gens[n]? = some x) (hg : Goes M A Pr rest g x (s.setGen n .running))
    (h : ∀ e u, SgEnd M A Pr rest g (s.setGen n .running) e u → e.quiet = true → Φ e.result (u.setGen n e.genState)) : ∃ res s', Wakes M Γ p n (.send .none) s res s' ∧ Φ res s' := by
  have hq : ∀ e u, SgEnd M A Pr rest g (s.setGen n .running) e u → e.quiet = true := fun e u z => by
    cases rest with
    | nil => obtain ⟨r, rfl, _⟩ := z; rfl
    | cons d r => obtain ⟨v, gd, l, k, c', p', fs', g', rfl, q, _⟩ := z; exact q
  cases x with
  | fresh c =>
    obtain ⟨e, u, hr, he⟩ := sg_iff.mp hg (Γ.wake c p) p rfl (hΓ.wake c p)
    exact ⟨_, _, by unfold Wakes; rw [hx]; exact ⟨e, u, hr, hq e u he, rfl, rfl⟩, h e u he (hq e u he)⟩
  | suspended k l c p0 fs cl =>
    obtain ⟨e, u, hr, he⟩ := sg_iff.mp hg (Γ.wake c p) p0 rfl (hΓ.wake c p)
    exact ⟨_, _, by unfold Wakes; rw [hx]; exact ⟨e, u, hr, hq e u he, rfl, rfl⟩, h e u he (hq e u he)⟩
  | running => exact hg.elim
  | finished => exact hg.elim
end
section
variable {P : Program} {w : World} {A : Around} {Pr : Prot} {E : Value → Shared → Prop} {s : Shared}
/-- next(g), one item more -/
theorem next_item {a : Addr} {n : Nat} {x : GenState} {d : PyData} {rest : List PyData} {g : Gh} {Q : Option Value → Shared → Prop} (hl : s.heap.NoLimit) (hroom : A.depth < recursionLimit) (hg : s.heap.IsGen a n) (hx : s.gens[n]? = some x)
    (hgo : Goes (model P w) A.in1 Pr (d :: rest) g x (s.setGen n .running))
    (hY : ∀ v u y g', y.bare = true → (∃ k l c p fs cl, y = .suspended k l c p fs cl) → Pr.Yd g d (s.setGen n .running) v u g' → (∀ s'', Pr.Ok g' u s'' → Goes (model P w) A.in1 Pr rest g' y s'') → Q (some v) (u.setGen n y)) :
    wpAny (model P w) A (pyNext (.ref a)) Q E s := by
  unfold pyNext
  refine wpAny_bind (wpAny_attempt (wpAny_callSpecial?_slot (name := Str.ofString "__next__") hg.typeIs slot_gen_next (wpAny_call_entry slot_gen_next hg.typeIs entry_gen_next ?_ (args_gen_next _))))
  show wpAny _ A.in1 (Builtin.Generator.genWake (.ref a) (.send .none)) _ _ s
  unfold Builtin.Generator.genWake
  refine wpAny_bind (wpAny_holding (wpAny_genNumber hg (wpAny_bind (wpAny_genState hx ?_))))
  cases x with
  | running => exact hgo.elim
  | finished => exact hgo.elim
  | _ =>
    refine wpAny_bind (wpAny_roomToWake hl hroom ?_)
    show wpAny _ A.in1 (.resume n (.send .none) [] _) _ _ s
    intro Γ p hΓ
    rw [Sem.wp_resume]
    refine goes_run hΓ hx hgo fun e u he hq => ?_
    obtain ⟨v, gd, l, k, c', p', fs', g', rfl, q, hy, hk⟩ := he
    exact (wpAny_pure ⟨v, rfl, wpAny_pure (hY v u _ g' (End.bare_of_quiet q) ⟨_, _, _, _, _, _, rfl⟩ hy hk)⟩ : wpAny (model P w) A.in1 _ _ _ _) Γ p hΓ
/-- next(g), at the end -/
theorem next_end {a : Addr} {n : Nat} {x : GenState} {g : Gh} {Q : Option Value → Shared → Prop} (hh : A.handled = none) (hl : s.heap.NoLimit) (hroom : A.depth < recursionLimit) (hg : s.heap.IsGen a n) (hx : s.gens[n]? = some x)
    (hgo : Goes (model P w) A.in1 Pr [] g x (s.setGen n .running))
    (hR : ∀ r u, Pr.En g (s.setGen n .running) r u → (r = .ok (.ret .none) ∨ r = .ok .next) ∧ ∀ h', (∀ b o, u.heap.get? b = some o → h'.get? b = some o) → Q none { u.setGen n .finished with heap := h' }) :
    wpAny (model P w) A (pyNext (.ref a)) Q E s := by
  unfold pyNext
  refine wpAny_bind (wpAny_attempt (wpAny_callSpecial?_slot (name := Str.ofString "__next__") hg.typeIs slot_gen_next (wpAny_call_entry slot_gen_next hg.typeIs entry_gen_next ?_ (args_gen_next _))))
  show wpAny _ A.in1 (Builtin.Generator.genWake (.ref a) (.send .none)) _ _ s
  unfold Builtin.Generator.genWake
  refine wpAny_bind (wpAny_holding (wpAny_genNumber hg (wpAny_bind (wpAny_genState hx ?_))))
  cases x with
  | running => exact hgo.elim
  | finished => exact hgo.elim
  | _ =>
    refine wpAny_bind (wpAny_roomToWake hl hroom ?_)
    show wpAny _ A.in1 (.resume n (.send .none) [] _) _ _ s
    intro Γ p hΓ
    rw [Sem.wp_resume]
    refine goes_run hΓ hx hgo fun e u he hq => ?_
    obtain ⟨r, rfl, hr⟩ := he
    obtain ⟨hr1, hr2⟩ := hR r u hr
    have hres : End.result (.ret r) = .returned .none := by rcases hr1 with z | z <;> rw [z] <;> rfl
    rw [hres]
    refine (?_ : wpAny (model P w) A.in1 _ _ _ _) Γ p hΓ
    show wpAny _ A.in1 (newExc (.type "StopIteration") [] >>= _) _ _ _
    refine wpAny_bind ?_
    simp only [newExc, newTuple]
    refine wpAny_bind (wpAny_newObj_type ?_ (by size_fits))
    refine wpAny_bind (m := firstArgMember _ _) (wpAny_of_eq (a := Value.none) (by first | rfl | (simp only [firstArgMember]; rfl)) ?_)
    refine wpAny_newObj_type ?_ (by size_fits)
    simp only [raiseNew]
    refine wpAny_bind (wpAny_bind (wpAny_handled ?_))
    first | rw [show A.in1.handled = none from hh] | rw [hh]
    refine wpAny_throw ?_
    refine wpAny_bind (wpAny_isInstance (T := "StopIteration") (b := true) ⟨_, Heap.get?_push_size _ rfl, rfl⟩ isSubtype_stop ?_)
    exact wpAny_pure (hr2 _ fun b o hb => Heap.get?_push_of_some _ (Heap.get?_push_of_some _ hb))
end
end Gf
namespace Gt
open PySem PySem.Spec PyProof.Rows L2 Gd GenW
/-! ### tuple(g): all of a new generator that raises nothing -/
section
variable {P : Program} {w : World} {outer : List Env} {H : Hp} {sc s : Shared} {ex : List Addr} {Q : List V → Hp → Prop} {A : Around} {k : Nat} {E : Value → Shared → Prop}
/-- what is known when all is handed out -/
structure Drained (P : Program) (w : World) (outer : List Env) (H : Hp) (sc s : Shared) (ex : List Addr) (Q : List V → Hp → Prop) (acc : Array Value) (s' : Shared) (S : Addr) (ys : List V) (H' : Hp) : Prop where
  old : s.heap.objs.size ≤ S
  vals : Vals ys acc.toList
  len : ys.length ≤ sizeLine
  os : s'.os = sc.os
  bare : AllBare s'.gens
  un : Un (frs outer) ex H H' sc.heap s'.heap
  hok : HOk P w H' s'.heap
  q : Q ys H'
theorem collect_made {a : Addr} {Q' : List Value → Shared → Prop} (hr : Room (k + 3) A) (hfr : A.frames = some outer) (h : GMade P w k outer H sc ex Q (fun _ _ _ => False) (.ref a) s)
    (fin : ∀ (acc : Array Value) s' S ys H', Drained P w outer H sc s ex Q acc s' S ys H' → Q' acc.toList s') : wpAny (model P w) A (collect (.ref a)) Q' E s := by
  obtain ⟨a', g, c, ea, ha1, ha2, isg, gsf, os1, bare1, nolim, kept, wake⟩ := h
  cases ea
  have ne1 : s.heap.objs.size ≠ a := Nat.ne_of_gt ha2
  have ne2 : s.heap.objs.size ≠ cStatics := Nat.ne_of_gt (let ⟨_, ns, _⟩ := nolim; ns.lt)
  unfold collect
  refine wpAny_bind (wpAny_runValue (codeAny_builtin F.entry_proto_collect (Around.under_plainId F.plain_proto_collect _ ▸ ?_)))
  show wpAny _ A.in1 (newList [] >>= fun l => again (.builtin "list.__iadd__" ⟨[l, .ref a], []⟩)) _ _ _
  refine wpAny_bind (wpAny_newObj_type (wpAny_pure ⟨plainId_quiet F.plain_list_iadd _, codeAny_builtin F.entry_list_iadd (Around.under_plainId F.plain_list_iadd _ ▸ ?_)⟩))
  have atS : (s.heap.push { cls := .type "list", data := .seq ([] : List Value).toArray }).get? s.heap.objs.size = some { cls := .type "list", data := .seq ([] : List Value).toArray } := Heap.get?_push_size _ rfl
  have kp1 : ∀ b o, s.heap.get? b = some o → (s.heap.push { cls := .type "list", data := .seq ([] : List Value).toArray }).get? b = some o := fun b o e => Heap.get?_push_of_some _ e
  have more : ∀ (h : Heap) (f : Obj → Obj), (∀ b o, s.heap.get? b = some o → h.get? b = some o) → ∀ b o, s.heap.get? b = some o → (h.update s.heap.objs.size f).get? b = some o := fun h f q b o e =>
    (Heap.get?_update_other _ _ (Ne.symm (Nat.ne_of_lt (Heap.lt_size e)))).trans (q b o e)
  have gens : ∀ {h : Heap}, (∀ b o, s.heap.get? b = some o → h.get? b = some o) → h.IsGen a g := fun {h} q => isg.keeps q
  show wpAny _ A.in1 (Builtin.List.listExtendWith (.ref s.heap.objs.size) (.ref a) (.ref s.heap.objs.size)) _ _ _
  unfold Builtin.List.listExtendWith
  refine wpAny_bind (wpAny_typeOf (Heap.IsGen.typeIs (s := { s with heap := _ }) (gens kp1)) ?_)
  rw [if_neg (by rw [show Builtin.List.listSameRef (.ref s.heap.objs.size) (.ref a) = false from by simp [Builtin.List.listSameRef, ne1]]; decide)]
  refine wpAny_bind (wpAny_pyIter_gen (s := { s with heap := _ }) (gens kp1) (wpAny_bind (wpAny_holding ?_)))
  unfold Builtin.List.listLengthHint
  refine wpAny_bind (wpAny_specialOf (Heap.IsGen.typeIs (s := { s with heap := _ }) (gens kp1)) F.gen_no_len ?_)
  show wpAny _ A.in1 (specialOf (Value.ref a) (Str.ofString "__length_hint__") >>= _) _ _ _
  refine wpAny_bind (wpAny_specialOf (Heap.IsGen.typeIs (s := { s with heap := _ }) (gens kp1)) F.gen_no_hint (wpAny_pure ?_))
  show wpAny _ A.in1 (rule "list.extend.makes-room" >>= fun _ => Builtin.List.listTouch (.ref s.heap.objs.size) >>= fun _ => again (.builtin "list.extend.loop" ⟨[.ref s.heap.objs.size, .ref a, .ref s.heap.objs.size], []⟩)) _ _ _
  refine wpAny_bind (wpAny_rule (wpAny_bind ?_))
  show wpAny _ A.in1 (updateSeq s.heap.objs.size (fun xs => xs.push .none) >>= fun _ => updateSeq s.heap.objs.size (fun xs => xs.pop)) _ _ _
  refine wpAny_bind (wpAny_updateSeq atS rfl ?_)
  have at2 := Heap.get?_update_self (Obj.mapSeq (fun xs => xs.push Value.none)) atS rfl
  refine wpAny_updateSeq (hz := by seq_fits) at2 rfl ?_
  have at3 := Heap.get?_update_self (Obj.mapSeq (fun xs => xs.pop)) at2 rfl
  have kp3 := more _ (Obj.mapSeq (fun xs => xs.pop)) (more _ (Obj.mapSeq (fun xs => xs.push Value.none)) kp1)
  refine wpAny_pure ⟨plainId_quiet F.plain_extend_loop _, ?_⟩
  refine drain (P := P) (w := w) (outer := outer) (H := H) (sc := sc) (ex := ex) (Q := Q) (EX := fun _ _ _ => False) (A := A) (g := g) (res := .ref s.heap.objs.size) hr.hd (by have := hr.dp; omega) ne1 ne2 ?last ?none sizeLine _ (gens kp3) (nolim.keeps kp3) ⟨_, gsf, rfl, ?wake⟩
  case last =>
    intro s' acc c' H' ys q1 q2 q3 q4 q5 q6 q7 q8 q9
    show wpAny _ A (load s.heap.objs.size >>= _) _ _ s'
    exact wpAny_bind (wpAny_load q1 (wpAny_pure (fin acc s' s.heap.objs.size ys H' ⟨Nat.le_refl _, q2, q3, q4, q5, q6, q7, q9⟩)))
  case none =>
    rintro e s' ⟨_, _, _, _, _, _, _, _, _, _, _, _, no⟩
    exact no.elim
  case wake =>
    refine wake _ _ _ ⟨hr.hd, ?_, ?_⟩ hfr (Nat.le_refl _) kp3 ⟨_, at3⟩ os1 (allBare_setGen (s := { s with heap := _ }) bare1 rfl)
    · have := hr.dp
      show A.depth + 3 * k + 5 < _
      omega
    · have := hr.un
      show A.units + 1 + 1 + 16 * k + 200 < _
      omega
theorem tuple_made {a : Addr} {Q' : Value → Shared → Prop} (hr : Room (k + 4) A) (hfr : A.frames = some outer) (h : GMade P w k outer H sc ex Q (fun _ _ _ => False) (.ref a) s)
    (fin : ∀ (acc : Array Value) s' S ys H', Drained P w outer H sc s ex Q acc s' S ys H' → Q' (.ref s'.heap.objs.size) { s' with heap := s'.heap.push { cls := .type "tuple", data := .seq acc } }) : wpAny (model P w) A (call (.type "tuple") [.ref a]) Q' E s := by
  have isg : ∃ g, s.heap.IsGen a g := by
    obtain ⟨a', g, c, ea, _, _, isg, _⟩ := h
    cases ea
    exact ⟨g, isg⟩
  obtain ⟨g, isg⟩ := isg
  refine callType_codes (Q₁ := fun obj s₁ => s₁.TypeIs obj "tuple" ∧ Q' obj s₁) F.called_tuple (F.typeCall_tuple_1 _) F.entry_object_init ?new fun obj s₁ h₁ => ?_
  case new =>
    refine codeAny_of_tree ?_
    show wpAny _ A.in1.in1 (do checkBuiltinCall "tuple.__new__" ⟨[.type "tuple", .ref a], []⟩; again (.builtin "tuple.__new__" ⟨[.type "tuple", .ref a], []⟩)) _ _ s
    refine wpAny_bind (wpAny_of_eq (F.newCall_tuple_1 _) (wpAny_pure (And.intro (plainId_quiet F.plain_tuple_new _) (codeAny_builtin F.entry_tuple_new ?_))))
    rw [Around.under_plainId F.plain_tuple_new _]
    have sub := sub_tuple_self
    have ini := init_tuple_lookup
    have mh := madeHere_tuple
    have ty : s.TypeIs (.ref a) "generator" := isg.typeIs
    have room : Room (k + 3) A.in1.in1 := ⟨hr.hd, by have := hr.dp; show A.depth + 3 * (k + 3) + 5 < _; omega, by have := hr.un; show A.units + 1 + 1 + 16 * (k + 3) + 200 < _; omega⟩
    wp_walk using wpAny_typeOf ty, collect_made (A := A.in1.in1) room hfr h
    intro acc s' S ys H' d
    show wpAny _ _ (Builtin.Tuple.tupleExact acc.toList.toArray >>= fun v => ret v) _ _ _
    unfold Builtin.Tuple.tupleExact
    have sz : acc.toList.toArray.size ≤ sizeLine := by
      have e1 := d.vals.length
      have e2 := d.len
      simp only [Array.toArray_toList]
      have e3 : acc.toList.length = acc.size := by simp
      omega
    refine wpAny_bind (wpAny_newObj_type (wpAny_pure ?_) sz)
    have ee : acc.toList.toArray = acc := by simp
    rw [ee]
    exact ⟨⟨_, Heap.get?_push_size _ rfl, rfl⟩, fin acc s' S ys H' d⟩
  exact ⟨h₁.1, F.args_object_init_2 obj _, object_init_meets F.called_tuple.init.lookup F.called_tuple.made (by decide) P w A.in1 _ s₁ ⟨h₁.1, rfl, h₁.2⟩⟩
end
section
variable {X : Cx} {k : Nat} {e : Expr} {tg : TGen} {p pos : Pos}
def tTupG (tg : TGen) : TE := fun σ H Q => tg σ H fun out H2 => ∀ p, H2 p = none → Q (.ref p) (upd H2 p (.tup out))
/-- tuple(g) -/
theorem pe_tupG (h : PGen X k e tg fun _ _ _ => False) (hr : Room (k + 4) X.A) (hm : X.mg "tuple" = none) (hg : Gl X "tuple" := by rfl) (he : starEach [e] X.env = (false, eval e X.env) :: starEach [] X.env := by rfl) : PE X (.Call (.Name "tuple" p) [e] [] pos) (tTupG tg) := by
  refine ⟨fun pins s σ H Q I want => ?_⟩
  refine wpAny_Call_Name_kw (ld_blt I hg hm (show bootBuiltins (Str.ofString "tuple") = some (.type "tuple") by decide +kernel) ?_ (by decide) (by decide))
  refine PyProof.Rows.callWith_type1 ?_ he rfl
  rw [he]
  show wpAny _ _ (spliced ((false, eval e X.env) :: backTo pos (starEach [] X.env))) _ _ s
  refine Calls.spliced_cons (thn (h.run pins s σ H _ I want) ?_)
  rintro u s1 ⟨H1, sc, ex, I1, hex, made⟩
  refine Calls.spliced_nil ?_
  have hu : ∃ a, u = .ref a ∧ sc.heap.objs.size ≤ s1.heap.objs.size := by
    obtain ⟨a, g, c, eu, h1, h2, _⟩ := made
    exact ⟨a, eu, Nat.le_trans h1 (Nat.le_of_lt h2)⟩
  obtain ⟨a, rfl, hsz⟩ := hu
  refine tuple_made hr I1.ok.frames made fun acc s' S ys H' d => ?_
  have J : Inv X pins σ H' s' := I1.call' (ch := ex) d.os d.un d.hok d.bare hex
  have fr : H' s'.heap.objs.size = none := J.hok.fresh (Nat.le_refl _)
  exact ⟨.ref s'.heap.objs.size, upd H' s'.heap.objs.size (.tup ys), J.laid (t' := s'.toks) (fun b o z => Heap.get?_push_of_some _ z) (Nat.le_refl _) (show ObjOk X.prog X.w _ _ _ (.tup ys) from ⟨d.len, acc.toList, d.vals, by simpa using IsTup.new s'.heap acc⟩), rfl, d.q _ fr⟩
end
end Gt
/-! Generator defs read over data. -/
namespace Dl
open PySem PySem.Spec PyProof.Rows L2 Gd Gt GenW
/-- what is wanted behind a statement of a generator: what is out so far, the names -/
structure GDE where
  nx : List PyData → En → Prop
  bk : List PyData → En → Prop := fun _ _ => False
  ct : List PyData → En → Prop := fun _ _ => False
abbrev TGd := GDE → List PyData → En → Prop
section
variable (G : Gx)
structure LkG (O : Addr → Prop) (H : Hp) (D : GEnds) (Dd : GDE) : Prop where
  nx : ∀ O' σ' H' E' ys ds, Later O H O' H' → Rel G O' σ' H' E' → DvL O' H' ys ds → Dd.nx ds E' → D.nx ys σ' H'
  bk : ∀ O' σ' H' E' ys ds, Later O H O' H' → Rel G O' σ' H' E' → DvL O' H' ys ds → Dd.bk ds E' → D.bk ys σ' H'
  ct : ∀ O' σ' H' E' ys ds, Later O H O' H' → Rel G O' σ' H' E' → DvL O' H' ys ds → Dd.ct ds E' → D.ct ys σ' H'
def lowGn (t : TGd) : TGn := fun D ys σ H => ∃ (O : Addr → Prop) (E : En) (Dd : GDE) (ds : List PyData), Rel G O σ H E ∧ DvL O H ys ds ∧ LkG G O H D Dd ∧ t Dd ds E
end
theorem LkG.later {G : Gx} {O O1 : Addr → Prop} {H H1 : Hp} {D : GEnds} {Dd : GDE} (k : LkG G O H D Dd) (L : Later O H O1 H1) : LkG G O1 H1 D Dd :=
  ⟨fun O' σ' H' E' ys ds l => k.nx O' σ' H' E' ys ds (L.trans l), fun O' σ' H' E' ys ds l => k.bk O' σ' H' E' ys ds (L.trans l), fun O' σ' H' E' ys ds l => k.ct O' σ' H' E' ys ds (L.trans l)⟩
section
variable {X : Cx} {G : Gx}
abbrev PGZ (X : Cx) (G : Gx) (st : Stmt) (t : TGd) : Prop := GS X st (lowGn G t)
abbrev PGZs (X : Cx) (G : Gx) (st : List Stmt) (t : TGd) : Prop := GSs X st (lowGn G t)
theorem GS.wk {st : Stmt} {t u : TGn} (h : GS X st t) (w : ∀ D ys σ H, u D ys σ H → t D ys σ H) : GS X st u :=
  ⟨fun A S ip R n ys s₀ c fs K J gd lv s σ H D a b d e z => h.run A S ip R n ys s₀ c fs K J gd lv s σ H D a b d e (w D ys σ H z)⟩
theorem GSs.wk {st : List Stmt} {t u : TGn} (h : GSs X st t) (w : ∀ D ys σ H, u D ys σ H → t D ys σ H) : GSs X st u :=
  ⟨fun A S ip R n ys s₀ c fs K J gd lv s σ H D a b d e z => h.run A S ip R n ys s₀ c fs K J gd lv s σ H D a b d e (w D ys σ H z)⟩
def gPl (t : TSd) : TGd := fun D ds E => t { nx := D.nx ds, rt := fun _ _ => False, bk := D.bk ds, ct := D.ct ds } E
theorem gz_of {st : Stmt} {t : TSd} (h : PZ X.nox G st t) : PGZ X G st (gPl t) := GS.wk (gs_nox h) fun D ys σ H ⟨O, E, Dd, ds, r, dv, k, z⟩ =>
  ⟨O, E, { nx := Dd.nx ds, rt := fun _ _ => False, bk := Dd.bk ds, ct := Dd.ct ds }, r, ⟨fun O' σ' H' E' l r' q => k.nx O' σ' H' E' ys ds l r' (dv.later l) q, fun _ _ _ _ _ _ _ q => q.elim, fun O' σ' H' E' l r' q => k.bk O' σ' H' E' ys ds l r' (dv.later l) q, fun O' σ' H' E' l r' q => k.ct O' σ' H' E' ys ds l r' (dv.later l) q⟩, z⟩
def gSeq (t u : TGd) : TGd := fun D ds E => t { D with nx := u D } ds E
theorem gzs_cons {st : Stmt} {rest : List Stmt} {t u : TGd} (h1 : PGZ X G st t) (h2 : PGZs X G rest u) : PGZs X G (st :: rest) (gSeq t u) := GSs.wk (gss_cons h1 h2) fun D ys σ H ⟨O, E, Dd, ds, r, dv, k, z⟩ =>
  ⟨O, E, { Dd with nx := u Dd }, ds, r, dv, ⟨fun O' σ' H' E' ys' ds' l r' dv' q => ⟨O', E', Dd, ds', r', dv', k.later l, q⟩, k.bk, k.ct⟩, z⟩
def gEnd0 : TGd := fun D ds E => D.nx ds E
theorem gzs_nil : PGZs X G [] gEnd0 := GSs.wk gss_nil fun D ys σ H ⟨O, E, Dd, ds, r, dv, k, z⟩ => k.nx O σ H E ys ds (Later.refl _ _) r dv z
theorem gzs_one {st : Stmt} {t : TGd} (h1 : PGZ X G st t) : PGZs X G [st] (gSeq t gEnd0) := gzs_cons h1 gzs_nil
def gIf (tt : TDt) (t u : TGd) : TGd := fun D ds E => tt E fun b n => if b = true then t D ds ⟨E.ρ, n⟩ else u D ds ⟨E.ρ, n⟩
theorem gz_if {c : Expr} {a b : List Stmt} {tt : TDt} {t u : TGd} {pos : Pos} (hc : PQ X.nox G c tt) (ha : PGZs X G a t) (hb : PGZs X G b u) : PGZ X G (.If c a b pos) (gIf tt t u) := GS.wk (gs_if hc ha hb) fun D ys σ H ⟨O, E, Dd, ds, r, dv, k, z⟩ => by
  refine ⟨O, E, _, r, ?_, z⟩
  rintro b n H1 k1 i1 q1
  have r1 := r.step k1 i1
  have L := r.lt k1
  cases b with
  | true =>
    refine iteT ?_
    rw [if_pos rfl] at q1
    exact ⟨O, _, Dd, ds, r1, dv.later L, k.later L, q1⟩
  | false =>
    refine iteF ?_
    rw [if_neg (by decide)] at q1
    exact ⟨O, _, Dd, ds, r1, dv.later L, k.later L, q1⟩
def gYld (t : TD) : TGd := fun D ds E => ds.length ≤ 100000 ∧ t E fun d n => D.nx (ds ++ [d]) ⟨E.ρ, n⟩
theorem dvl_app {O : Addr → Prop} {H : Hp} : ∀ {vs ws : List V} {ds es : List PyData}, DvL O H vs ds → DvL O H ws es → DvL O H (vs ++ ws) (ds ++ es)
  | _, _, _, _, .nil, h => h
  | _, _, _, _, .cons a b, h => .cons a (dvl_app b h)
theorem gz_yield {e : Expr} {t : TD} {yp pos : Pos} (he : PD X.nox G e t) (hco : X.env.scope.isCoroutine = false := by rfl) (hi : interactive X.env = false := by rfl) : PGZ X G (.Expr (.Yield (some e) yp) pos) (gYld t) := GS.wk (gs_yield (PE.nox he) hco hi) fun D ys σ H ⟨O, E, Dd, ds, r, dv, k, hl, z⟩ => by
  refine ⟨Nat.lt_of_le_of_lt (dv.length ▸ hl) (by decide), O, E, _, r, ?_, z⟩
  rintro d n v H1 k1 i1 rv q1
  exact k.nx O σ H1 _ _ _ (r.lt k1) (r.step k1 i1) (dvl_app (dv.later (r.lt k1)) (.cons rv .nil)) q1
def gForL (tg : Tg) (tb : TGd) (D : GDE) : List PyData → List PyData → En → Prop
  | [], ds, E => D.nx ds E
  | x :: xs, ds, E => opt (tg.put x E.ρ) fun ρ => tb { D with nx := gForL tg tb D xs, ct := gForL tg tb D xs, bk := D.nx } ds ⟨ρ, E.n⟩
structure gFor0 (tg : Tg) (tb : TGd) (D : GDE) (xs ds : List PyData) (E : En) : Prop where
  h : gForL tg tb D xs ds E
def gFor (it : TId) (tg : Tg) (tb : TGd) : TGd := fun D ds E => it E fun xs n => gFor0 tg tb D xs ds ⟨E.ρ, n⟩
theorem gz_for {target iter : Expr} {body : List Stmt} {it : TId} {tg : Tg} {tb : TGd} {pos : Pos} (hp : PassesOwn (model X.prog X.w) X.A X.env X.xe) (hc : X.calm = true) (hi : PJ X.nox G target iter it) (hg : PG X.nox target (tg.g X.K)) (hb : PGZs X G body tb) (hs : ∀ x, foldedSetIterable iter X.env x = pure x := by intro _; rfl) :
    PGZ X G (.For target iter body [] pos) (gFor it tg tb) := GS.wk (gs_for hp hc hi hg hb hs) fun D ys σ H ⟨O, E, Dd, ds, r, dv, k, z⟩ => by
  refine ⟨O, E, _, r, ?_, z⟩
  rintro xs n J H1 k1 i1 wk q1
  replace q1 := q1.h
  have r1 := r.step k1 i1
  have L1 := r.lt k1
  refine ⟨fun i m ys2 σ2 H2 => m = xs.length - i ∧ i ≤ xs.length ∧ ∃ O2 E2 ds2, Later O H1 O2 H2 ∧ Rel G O2 σ2 H2 E2 ∧ DvL O2 H2 ys2 ds2 ∧ gForL tg tb Dd (xs.drop i) ds2 E2, ⟨xs.length, rfl, Nat.zero_le _, O, _, ds, Later.refl _ _, r1, dv.later L1, by simpa using q1⟩, ?_⟩
  rintro i m ys2 σ2 H2 ⟨rfl, hle, O2, E2, ds2, L2, r2, dv2, q2⟩
  by_cases hl : i < xs.length
  · obtain ⟨g1, g2⟩ := (wk O2 H2 L2 r2.al i).1 xs[i] (List.getElem?_eq_getElem hl)
    rw [List.drop_eq_getElem_cons hl] at q2
    obtain ⟨ρ, e, q3⟩ := opt_el q2
    refine .inr ⟨g1, fun ys' σ' H' => ∃ O3 E3 ds3, Later O H1 O3 H' ∧ Rel G O3 σ' H' E3 ∧ DvL O3 H' ys' ds3 ∧ gForL tg tb Dd (xs.drop (i + 1)) ds3 E3, fun ys' σ' H' q => ⟨xs.length - (i + 1), by omega, rfl, by omega, q⟩, fun x H3 y => ?_⟩
    obtain ⟨s3, dx⟩ := g2 x H3 y
    obtain ⟨k3, i3⟩ := r2.fin s3
    have r3 := r2.step k3 i3
    have L23 := r2.lt k3
    have L3 := L2.trans L23
    refine Tg.ok tg r3 dx e fun σ' r' _ => ⟨O2, _, { Dd with nx := gForL tg tb Dd (xs.drop (i + 1)), ct := gForL tg tb Dd (xs.drop (i + 1)), bk := Dd.nx }, ds2, r', dv2.later L23, ⟨fun O' σ' H' E' ys' ds' l rr dd q => ⟨O', E', ds', L3.trans l, rr, dd, q⟩, fun O' σ' H' E' ys' ds' l rr dd q => k.nx O' σ' H' E' ys' ds' ((L1.trans L3).trans l) rr dd q, fun O' σ' H' E' ys' ds' l rr dd q => ⟨O', E', ds', L3.trans l, rr, dd, q⟩⟩, q3⟩
  · refine .inl ⟨(wk O2 H2 L2 r2.al i).2 (by omega), ?_⟩
    rw [List.drop_eq_nil_of_le (by omega)] at q2
    exact k.nx O2 σ2 H2 E2 ys2 ds2 (L1.trans L2) r2 dv2 q2
/-- a for over data in a generator, by an invariant -/
theorem gfor_L {tg : Tg} {tb : TGd} {D : GDE} (xs : List PyData) (I : Nat → List PyData → En → Prop) {ds : List PyData} {E : En} (h0 : I 0 ds E)
    (step : ∀ (i : Nat) (x : PyData) (ds : List PyData) (E : En) (D' : GDE), xs[i]? = some x → I i ds E → (∀ ds' E', I (i + 1) ds' E' → D'.nx ds' E') → opt (tg.put x E.ρ) fun ρ => tb D' ds ⟨ρ, E.n⟩)
    (fin : ∀ ds E, I xs.length ds E → D.nx ds E) : gFor0 tg tb D xs ds E := by
  have key : ∀ (k i : Nat) (ds : List PyData) (E : En), i + k = xs.length → I i ds E → gForL tg tb D (xs.drop i) ds E := by
    intro k
    induction k with
    | zero =>
      intro i ds E hi h
      rw [List.drop_eq_nil_of_le (by omega)]
      exact fin ds E (by rw [← hi]; exact h)
    | succ k ih =>
      intro i ds E hi h
      have hl : i < xs.length := by omega
      rw [List.drop_eq_getElem_cons hl]
      exact step i xs[i] ds E _ (List.getElem?_eq_getElem hl) h fun ds' E' h' => ih (i + 1) ds' E' (by omega) h'
  exact ⟨by simpa using key xs.length 0 ds E (by omega) h0⟩
end
/-! ### the promise of a generator def -/
abbrev ConG := Fr → List Ar → Nat → (List PyData → Nat → Prop) → Prop
def spGD (C : ConG) (m : Nat) : SpG := fun vs H Q E => E = (fun _ _ _ => False) ∧ vs.length = m ∧ ∃ (F : Fr) (B : Addr → Prop) (as : List Ar) (n : Nat) (Qd : List PyData → Nat → Prop), (∀ x, F.S x → B x) ∧ Hb B H ∧ Paired (ArR B H) vs as ∧ F.I n H ∧
  (∀ ds n vs H', Kp F.S H H' → F.I n H' → DvL B H' vs ds → Qd ds n → Q vs H') ∧ C F as n Qd
section
variable {P : Program} {w : World} {K : PySem.W.Frag} {mg : Str → Option Value} {base : Heap}
theorem okGD {x qual : Str} {st : Stmt} {f : Addr} {fd : FuncData} {N ps : List Str} {k : Nat} {C : ConG} {t : Gx → TGd} (F : Fun K x qual st f fd) (S : GScope N ps (defScope st))
    (der : ∀ (G : Gx) (cdv : Value) (A : Around) (fr : List Env) (s : Shared) (H : Hp) (E : XK) (pn : List (Addr × Obj)), Room k (A.deeper (envOfC qual (defScope st) s.heap.objs.size f cdv)) → PGZs (gcxOf P w K mg base N qual (defScope st) f cdv A fr s H E pn) G (defBody st) (t G))
    (sem : ∀ (G : Gx) (as : List Ar) (n : Nat) (Qd : List PyData → Nat → Prop), as.length = ps.length → C G.F as n Qd → t G { nx := fun ds E => Qd ds E.n } [] ⟨as.map Ar.sl ++ List.replicate (N.length - ps.length) Sl.no, n⟩) :
    GFn P w K mg base (k + 1) f fd ps (spGD C ps.length) := by
  obtain ⟨oc, od, kV, doc, pm, an, cdv, ct, osl, rfl, lk, hcd⟩ := F.ex
  refine gfn_of lk hcd S (fun vs H Q E h => h.2.1) fun A outer s H vs Q E pn hr h => ?_
  obtain ⟨_, hl, F', B, as, n, Qd, sb, hb, hv, i, im, c⟩ := h
  refine ⟨_, der ⟨F', B, H, sb, hb⟩ cdv A outer s H E pn hr, B, _, _, [], rel_start (G := ⟨F', B, H, sb, hb⟩) hv rfl i, .nil, ?_, by have := sem ⟨F', B, H, sb, hb⟩ as n Qd (hv.length.symm.trans hl) c; rw [← hl] at this; exact this⟩
  exact ⟨fun O' σ' H' E' ys ds l r dv q => im ds E'.n ys H' r.kp r.str (dv.mp fun _ _ z => Dv.less' r.bo z) q, fun _ _ _ _ _ _ _ _ _ q => q.elim, fun _ _ _ _ _ _ _ _ _ q => q.elim⟩
theorem GFn.mono {j k : Nat} {f : Addr} {fd : FuncData} {ps : List Str} {sp : SpG} (F : GFn P w K mg base j f fd ps sp) (h : j ≤ k) : GFn P w K mg base k f fd ps sp := by
  refine ⟨F.len, fun A fr s H ar us vs Q E hr he hb hv hs => codeAny_mono (F.run A fr s H ar us vs Q E (hr.mono h) he hb hv hs) ?_⟩
  intro r s' q
  cases r with
  | error e => exact q
  | ok fl => cases fl with
    | ret u =>
      obtain ⟨a, g, c, q1, q2, q3, q4, q5, q6, q7, q8, q9, wake⟩ := q
      exact ⟨a, g, c, q1, q2, q3, q4, q5, q6, q7, q8, q9, fun A' S s2 hr' => wake A' S s2 (hr'.mono h)⟩
    | _ => exact q
structure CdGen (P : Program) (w : World) (K : PySem.W.Frag) (mg : Str → Option Value) (base : Heap) (k : Nat) (x : Str) (f : Addr) (fd : FuncData) (ps : List Str) (C : ConG) : Prop where
  G : GFn P w K mg base k f fd ps (spGD C ps.length)
  kp : PySem.W.keepIn K (.ref f) = true
  b : Binds K fd ps []
  g : mg x = some (.ref f)
theorem CdGen.mono {j k : Nat} {x : Str} {f : Addr} {fd : FuncData} {ps : List Str} {C : ConG} (c : CdGen P w K mg base j x f fd ps C) (h : j ≤ k) : CdGen P w K mg base k x f fd ps C := ⟨GFn.mono c.G h, c.kp, c.b, c.g⟩
end
section
variable {X : Cx} {G : Gx}
def dTupG (F : Fr) (C : ConG) (m : Nat) (ts : TDa) : TD := fun E Q => ts E fun as n => as.length = m ∧ C F as n (fun ds n' => Q (.tuple ds) n')
theorem pd_tupG {k m : Nat} {f : Addr} {fd : FuncData} {ps : List Str} {C : ConG} {x : Str} {p p1 pos pos1 : Pos} {e : Expr} {es : List Expr} {ts : TDa} (F : GFn X.prog X.w X.K X.mg X.base k f fd ps (spGD C m)) (hr : Room (k + 4) X.A) (hm : X.mg x = some (.ref f)) (hk : PySem.W.keepIn X.K (.ref f) = true) (hb : Binds X.K fd ps [])
    (ha : PR X G (e :: es) ts) (mt : X.mg "tuple" = none) (gt : Gl X "tuple" := by rfl) (hg : Gl X x := by rfl) (hdb : (x == ("__debug__" : Str)) = false := by decide) (he : starEach (e :: es) X.env = (false, eval e X.env) :: starEach es X.env := by rfl) (hpl : (backTo pos1 (starEach es X.env)).any (·.1) = false := by rfl)
    (he2 : starEach [.Call (.Name x p1) (e :: es) [] pos1] X.env = (false, eval (.Call (.Name x p1) (e :: es) [] pos1) X.env) :: starEach [] X.env := by rfl) :
    PD X G (.Call (.Name "tuple" p) [.Call (.Name x p1) (e :: es) [] pos1] [] pos) (dTupG G.F C m ts) :=
  PE.wk (pe_tupG (pgen_call F (hr.mono (by omega)) hg hm hk hb .nil ha hdb he hpl) hr mt gt he2) fun σ H Q ⟨O, E, Qd, r, im, z⟩ => by
    refine ⟨O, E, _, r, ?_, z⟩
    rintro as n vs H1 k1 i1 rv ⟨q0, q1⟩
    have r1 := r.step k1 i1
    refine ⟨rfl, by rw [List.append_nil]; exact rv.length.trans q0, G.F, O, as, n, _, r.sO, r1.aB, by rw [List.append_nil]; exact rv, i1, ?_, q1⟩
    rintro ds n' ws H2 k2 i2 dv q2 p2 hp2
    have r2 := r1.step k2 i2
    obtain ⟨k3, i3⟩ := r2.fin (same_upd' (o := .tup ws) hp2)
    exact im _ n' _ _ ((k1.trans k2).trans k3) i3 (Dv.mkT upd_same (fun y => r2.al _ y hp2) (dv.later (later_new hp2))) q2
def dLstG (F : Fr) (C : ConG) (m : Nat) (ts : TDa) : TD := fun E Q => ts E fun as n => as.length = m ∧ C F as n (fun ds n' => Q (.list ds) n')
theorem pd_lstG {k m : Nat} {f : Addr} {fd : FuncData} {ps : List Str} {C : ConG} {x : Str} {p p1 pos pos1 : Pos} {e : Expr} {es : List Expr} {ts : TDa} (F : GFn X.prog X.w X.K X.mg X.base k f fd ps (spGD C m)) (hr : Room (k + 3) X.A) (hm : X.mg x = some (.ref f)) (hk : PySem.W.keepIn X.K (.ref f) = true) (hb : Binds X.K fd ps [])
    (ha : PR X G (e :: es) ts) (mt : X.mg "list" = none) (gt : Gl X "list" := by rfl) (hg : Gl X x := by rfl) (hdb : (x == ("__debug__" : Str)) = false := by decide) (he : starEach (e :: es) X.env = (false, eval e X.env) :: starEach es X.env := by rfl) (hpl : (backTo pos1 (starEach es X.env)).any (·.1) = false := by rfl)
    (he2 : starEach [.Call (.Name x p1) (e :: es) [] pos1] X.env = (false, eval (.Call (.Name x p1) (e :: es) [] pos1) X.env) :: starEach [] X.env := by rfl) :
    PD X G (.Call (.Name "list" p) [.Call (.Name x p1) (e :: es) [] pos1] [] pos) (dLstG G.F C m ts) :=
  PE.wk (pe_listG (pgen_call (E := fun _ _ _ => False) F (hr.mono (by omega)) hg hm hk hb .nil ha hdb he hpl) (fun _ _ _ _ _ _ _ ⟨_, _, _, _, _, _, _, _, _, _, _, _, no⟩ => no.elim) (fun _ _ _ no => no.elim) hr gt mt (by decide +kernel) (he := he2)) fun σ H Q ⟨O, E, Qd, r, im, z⟩ => by
    refine ⟨O, E, _, r, ?_, z⟩
    rintro as n vs H1 k1 i1 rv ⟨q0, q1⟩
    have r1 := r.step k1 i1
    refine ⟨rfl, by rw [List.append_nil]; exact rv.length.trans q0, G.F, O, as, n, _, r.sO, r1.aB, by rw [List.append_nil]; exact rv, i1, ?_, q1⟩
    rintro ds n' ws H2 k2 i2 dv q2 p2 hp2
    have r2 := r1.step k2 i2
    obtain ⟨k3, i3⟩ := r2.fin (same_upd' (o := .lst ws) hp2)
    exact im _ n' _ _ ((k1.trans k2).trans k3) i3 (Dv.mkL upd_same (fun y => r2.al _ y hp2) (dv.later (later_new hp2))) q2
end
end Dl
/-! A generator's own part of the state: how it is woken, what it leaves alone. -/
namespace Gf
open PySem PySem.Spec PyProof.Rows L2 GenW Gd
def Strc : HO → Prop
  | .lst _ | .tup _ | .dK _ | .dT _ => True
  | _ => False
/-- the tuples alone -/
def tupOf (H : Hp) : Hp := fun b => match H b with
  | some (.tup xs) => some (.tup xs)
  | _ => none
/-- lists, tuples, dicts alone -/
def strcOf (H : Hp) : Hp := fun b => match H b with
  | some (.lst xs) => some (.lst xs)
  | some (.tup xs) => some (.tup xs)
  | some (.dK k) => some (.dK k)
  | some (.dT k) => some (.dT k)
  | _ => none
theorem tupOf_eq {H : Hp} {b : Addr} {xs : List V} : tupOf H b = some (.tup xs) ↔ H b = some (.tup xs) := by
  unfold tupOf
  cases e : H b with
  | none => simp
  | some u => cases u <;> simp
theorem tupOf_tup {H : Hp} {b : Addr} {u : HO} (h : tupOf H b = some u) : ∃ xs, u = .tup xs ∧ H b = some (.tup xs) := by
  unfold tupOf at h
  split at h
  · rename_i ys e
    cases h
    exact ⟨ys, rfl, e⟩
  · cases h
theorem strcOf_of {H : Hp} {b : Addr} {u : HO} (h : strcOf H b = some u) : H b = some u ∧ Strc u := by
  unfold strcOf at h
  split at h <;> first | (rename_i e; cases h; exact ⟨e, trivial⟩) | cases h
theorem strcOf_eq {H : Hp} {b : Addr} {u : HO} (h : H b = some u) (s : Strc u) : strcOf H b = some u := by
  unfold strcOf
  rw [h]
  cases u <;> first | rfl | exact s.elim
theorem strcOf_none {H : Hp} {b : Addr} (h : H b = none) : strcOf H b = none := by
  unfold strcOf
  rw [h]
theorem tupOf_strc {H : Hp} : tupOf (strcOf H) = tupOf H := by
  funext b
  cases e : H b with
  | none => unfold tupOf; rw [strcOf_none e, e]
  | some u =>
    by_cases s : Strc u
    · unfold tupOf
      rw [strcOf_eq e s, e]
    · have : strcOf H b = none := by
        cases q : strcOf H b with
        | none => rfl
        | some v =>
          obtain ⟨a, c⟩ := strcOf_of q
          rw [e] at a
          cases a
          exact (s c).elim
      unfold tupOf
      rw [this, e]
      cases u <;> first | rfl | exact (s trivial).elim
abbrev NoCell (o : Obj) : Prop := ∀ v, o.data ≠ .cell v
theorem ObjOk.noCell {P : Program} {w : World} {H : Hp} {h : Heap} {b : Addr} {u : HO} (x : ObjOk P w H h b u) (s : Strc u) {o : Obj} (e : h.get? b = some o) : NoCell o := by
  intro v z
  cases u with
  | lst xs =>
    obtain ⟨_, its, n, _, q⟩ := x
    rw [e] at q
    cases q
    cases z
  | tup xs =>
    obtain ⟨_, its, _, ob, q, c⟩ := x
    rw [e] at q
    cases q
    obtain ⟨_, n, z2⟩ := c
    rw [z2] at z
    cases z
  | dK kvs =>
    obtain ⟨_, _, vs, _, ob, es, ep, q, _, z2, _⟩ := x
    rw [e] at q
    cases q
    rw [z2] at z
    cases z
  | dT kvs =>
    obtain ⟨_, _, xs, _, ob, es, ep, q, _, z2, _⟩ := x
    rw [e] at q
    cases q
    rw [z2] at z
    cases z
  | _ => exact s.elim
theorem tup_any {P : Program} {w : World} {H H' : Hp} {h : Heap} {b : Addr} {xs : List V} (x : ObjOk P w H h b (.tup xs)) : ObjOk P w H' h b (.tup xs) := x
theorem tup_there {P : Program} {w : World} {H : Hp} {h : Heap} {b : Addr} {xs : List V} (x : ObjOk P w H h b (.tup xs)) : ∃ o, h.get? b = some o := by
  obtain ⟨_, its, _, ob, e, _⟩ := x
  exact ⟨ob, e⟩
/-! ### the heap below an address -/
def cut (h : Heap) (n : Nat) : Heap := { h with objs := h.objs.extract 0 n }
theorem cut_size {h : Heap} {n : Nat} (l : n ≤ h.objs.size) : (cut h n).objs.size = n := by
  show (h.objs.extract 0 n).size = n
  rw [Array.size_extract]
  omega
theorem cut_get {h : Heap} {n : Nat} {b : Addr} (l : b < n) : (cut h n).get? b = h.get? b := by
  unfold Heap.get?
  have : (cut h n).objs[b]? = h.objs[b]? := by
    show (h.objs.extract 0 n)[b]? = _
    rw [Array.getElem?_extract]
    have l : Nat.lt b n := l
    split
    · rw [Nat.zero_add]
    · rename_i q
      have q : ¬ Nat.lt b (min n h.objs.size - 0) := q
      have q2 : ¬ Nat.lt b h.objs.size := fun z => q (by simp only [Nat.lt_eq] at *; omega)
      rw [Array.getElem?_eq_none]
      exact Nat.le_of_not_lt q2
  rw [this]
theorem cut_some {h : Heap} {n : Nat} {b : Addr} {o : Obj} (l : n ≤ h.objs.size) (e : (cut h n).get? b = some o) : b < n ∧ h.get? b = some o := by
  have := Heap.lt_size e
  rw [cut_size l] at this
  exact ⟨this, by rw [← cut_get this]; exact e⟩
/-! ### a generator's frame -/
structure Fx where
  P : Program
  w : World
  K : PySem.W.Frag
  mg : Str → Option Value
  base : Heap
  N : List Str
  qual : Str
  scope : Scope
  f : Addr
  cd : Value
  A : Around
  outer : List Env
  a0 : Addr
  go : Addr × Obj
  num : Nat
  os : OsState
/-- what changes from turn to turn -/
structure Ix where
  s : Shared
  H : Hp
  pn : List (Addr × Obj)
abbrev Fx.env (φ : Fx) : Env := envOfC φ.qual φ.scope φ.a0 φ.f φ.cd
abbrev Fx.cx (φ : Fx) (j : Ix) : Cx where
  prog := φ.P
  w := φ.w
  K := φ.K
  mg := φ.mg
  base := φ.base
  A := φ.A.deeper φ.env
  N := φ.N
  s_0 := j.s
  H_0 := j.H
  env := φ.env
  outer := φ.outer
  stack := φ.env :: φ.outer
  ex := []
  calm := true
  fn := fun _ => true
  pn := j.pn
  xe := fun _ _ => False
structure FxOk (φ : Fx) : Prop where
  mod : Mod φ.K φ.mg φ.base
  kind : φ.scope.kind = .function
  nc : ∀ y ∈ φ.scope.names, y.2 ≠ .cell ∧ y.2 ≠ .free
  bsz : φ.base.objs.size ≤ φ.a0
  fr : ∀ b ∈ frs φ.outer, b < φ.a0
  hd : φ.A.handled = none
  frames : φ.A.frames = some φ.outer
  ga : φ.a0 < φ.go.1
  gn : NoCell φ.go.2
theorem cells_nil : ∀ {names : List (Str × NameKind)} {n : Nat} {acc : List (Str × Addr)}, (∀ y ∈ names, y.2 ≠ .cell ∧ y.2 ≠ .free) → cellsFrom n names acc = acc
  | [], _, _, _ => rfl
  | (x, k) :: r, n, acc, h => by
    have hk := (h (x, k) List.mem_cons_self).1
    show (if k == .cell then cellsFrom (n + 1) r ((x, n) :: acc) else cellsFrom n r acc) = acc
    have : (k == NameKind.cell) = false := by
      cases k <;> first | rfl | exact (hk rfl).elim
    rw [this]
    exact cells_nil fun y hy => h y (List.mem_cons_of_mem _ hy)
theorem FxOk.cells {φ : Fx} (ok : FxOk φ) : φ.env.cells = [] := cells_nil ok.nc
theorem FxOk.nocell {φ : Fx} (ok : FxOk φ) {x : Str} {c : Addr} (h : φ.env.cells.lookup x = some c) : False := by
  rw [ok.cells] at h
  cases h
theorem FxOk.nokind {φ : Fx} (ok : FxOk φ) {x : Str} (h : φ.env.kindOf x = some .cell ∨ φ.env.kindOf x = some .free) : False := by
  have h : φ.scope.names.lookup x = some .cell ∨ φ.scope.names.lookup x = some .free := h
  rcases h with h | h
  · exact (ok.nc _ (PySem.mem_of_lookup h)).1 rfl
  · exact (ok.nc _ (PySem.mem_of_lookup h)).2 rfl
/-- what is known of the turn that has begun at s0 -/
structure Jn (φ : Fx) (g : Gh) (s0 : Shared) (j : Ix) : Prop where
  os : j.s.os = s0.os
  sz : j.s.heap.objs.size = φ.a0
  lo : ∀ b, b < φ.a0 → j.s.heap.get? b = s0.heap.get? b
  hT : j.H = g.T
  tt : ∀ b u, g.T b = some u → ∃ xs, u = .tup xs
  pn : ∀ b o, φ.a0 ≤ b → s0.heap.get? b = some o → b ∉ g.fp → g.T b = none → NoCell o → (b, o) ∈ j.pn
  go : φ.go ∈ j.pn
  hz : φ.a0 ≤ s0.heap.objs.size
  own : φ.a0 ∈ g.fp ∧ φ.go.1 ∈ g.fp
  oo : s0.os = φ.os
/-- what may be done while it sleeps -/
structure Slp (φ : Fx) (g : Gh) (s s2 : Shared) : Prop where
  os : s2.os = s.os
  bare : AllBare s2.gens
  keep : ∀ b ∈ g.fp, ∀ o, s.heap.get? b = some o → s2.heap.get? b = some o
  tup : HOk φ.P φ.w g.T s2.heap
  bs : ∀ b o, φ.base.get? b = some o → s2.heap.get? b = some o
  funs : s2.heap.FunFrames φ.base φ.outer
  gs : ∀ i ∈ g.gs, s2.gens[i]? = s.gens[i]?
  run : s2.gens[φ.num]? = some .running
theorem funs_of {h h' base : Heap} : ∀ {l : List Env}, h.FunFrames base l → (∀ b ∈ frs l, h'.get? b = h.get? b) → h'.FunFrames base l
  | [], _, _ => trivial
  | env :: r, ⟨hk, ⟨L, o, hf, hn, ho, hd⟩, hr⟩, k => by
    have e : frs (env :: r) = L :: frs r := by unfold frs; rw [List.filterMap_cons, hf]
    refine ⟨hk, ⟨L, o, hf, hn, by rw [k L (by rw [e]; exact List.mem_cons_self)]; exact ho, hd⟩, funs_of hr fun b hb => k b (by rw [e]; exact List.mem_cons_of_mem _ hb)⟩
open Classical in
/-- the others' objects as they stand -/
noncomputable def others (φ : Fx) (g : Gh) (h : Heap) : List (Addr × Obj) :=
  (List.range h.objs.size).filterMap fun b => (h.get? b).bind fun o => if φ.a0 ≤ b ∧ b ∉ g.fp ∧ g.T b = none ∧ NoCell o then some (b, o) else none
open Classical in
theorem others_mem {φ : Fx} {g : Gh} {h : Heap} {p : Addr × Obj} : p ∈ others φ g h ↔ h.get? p.1 = some p.2 ∧ φ.a0 ≤ p.1 ∧ p.1 ∉ g.fp ∧ g.T p.1 = none ∧ NoCell p.2 := by
  unfold others
  rw [List.mem_filterMap]
  constructor
  · rintro ⟨b, hb, e⟩
    cases q : h.get? b with
    | none => rw [q] at e; cases e
    | some o =>
      rw [q] at e
      have e : (if φ.a0 ≤ b ∧ b ∉ g.fp ∧ g.T b = none ∧ NoCell o then some (b, o) else none) = some p := e
      split at e
      · rename_i z
        cases e
        exact ⟨q, z⟩
      · cases e
  · rintro ⟨e, z⟩
    refine ⟨p.1, List.mem_range.mpr (Heap.lt_size e), ?_⟩
    rw [e]
    show (if _ then some (p.1, p.2) else none) = some p
    rw [if_pos z]
/-- THE WAKING: a new turn over the heap as it stands now -/
theorem wake {φ : Fx} (ok : FxOk φ) {g : Gh} {j : Ix} {ip : List (Addr × Obj)} {σ : L2.St} {H : Hp} {s s2 : Shared} (I : Inv (φ.cx j) ip σ H s) (hgo : φ.go ∈ j.pn) (hS : ∀ b u, H b = some u → Strc u) (hT : g.T = tupOf H)
    (hfp : ∀ b, (b = φ.a0 ∨ b = φ.go.1 ∨ (∃ u, H b = some u ∧ ∀ xs, u ≠ .tup xs) ∨ ∃ p ∈ ip, p.1 = b) → b ∈ g.fp) (hge : ∀ b ∈ g.fp, φ.a0 ≤ b) (hap : ∀ p ∈ j.pn, ∀ q ∈ ip, p.1 ≠ q.1) (ho : s.os = φ.os) (z : Slp φ g s s2) :
    ∃ j2, Inv (φ.cx j2) ip σ H s2 ∧ Jn φ g s2 j2 ∧ ∀ p ∈ j2.pn, ∀ q ∈ ip, p.1 ≠ q.1 := by
  have a0f : φ.a0 ∈ g.fp := hfp _ (.inl rfl)
  have gof : φ.go.1 ∈ g.fp := hfp _ (.inr (.inl rfl))
  have gpin := I.pin φ.go (List.mem_append_left _ hgo)
  obtain ⟨m, hns, hlk⟩ := I.loc
  have hns2 : s2.heap.Ns φ.a0 m := by
    obtain ⟨o, es, ep, ho, r⟩ := hns
    exact ⟨o, es, ep, z.keep _ a0f o ho, r⟩
  have lt2 : φ.a0 < s2.heap.objs.size := hns2.lt
  have Tn : ∀ b, H b = none → g.T b = none := fun b e => by rw [hT]; unfold tupOf; rw [e]
  have nf : ∀ b, φ.a0 ≤ b → b ∉ frs φ.outer := fun b h hb => absurd (Nat.lt_of_lt_of_le (ok.fr b hb) h) (Nat.lt_irrefl _)
  have nH : ∀ b, b ∉ g.fp → g.T b = none → H b = none := fun b h1 h2 => by
    cases e : H b with
    | none => rfl
    | some u =>
      refine (h1 (hfp b (.inr (.inr (.inl ⟨u, e, fun xs w => ?_⟩))))).elim
      subst w
      rw [hT, tupOf_eq.mpr e] at h2
      cases h2
  refine ⟨⟨{ s2 with heap := cut s2.heap φ.a0 }, g.T, φ.go :: others φ g s2.heap⟩, ?_, ?_, ?_⟩
  · have csz := cut_size (h := s2.heap) (Nat.le_of_lt lt2)
    have base0 : ∀ b o, φ.base.get? b = some o → b < φ.a0 := fun b o e => Nat.lt_of_lt_of_le (Heap.lt_size e) ok.bsz
    refine ⟨⟨ok.mod, ok.kind, rfl, rfl, by show (cut _ _).objs.size ≤ φ.a0; rw [csz]; exact Nat.le_refl _, fun x y c h _ => (ok.nocell h).elim, fun x h => (ok.nokind h).elim, fun x c _ h => (ok.nocell h).elim, fun _ => ok.hd, Around.frames_deeper ok.frames, .inr ⟨rfl, rfl⟩,
      fun b hb => (List.not_mem_nil hb).elim, fun b o e => ⟨(cut_get (base0 b o e)).trans (z.bs b o e), Tn b (I.bs b o e).2⟩, by show φ.base.objs.size ≤ (cut _ _).objs.size; rw [csz]; exact ok.bsz, fun b o _ hb => List.not_mem_nil hb, fun b hb => (List.not_mem_nil hb).elim,
      funs_of z.funs fun b hb => cut_get (ok.fr b hb), fun b hb => Tn b (I.stkFree b ?_)⟩, rfl, z.bare, ⟨fun b o e _ _ _ => (cut_some (Nat.le_of_lt lt2) e).2, fun b o e _ _ _ => ⟨o.slots, (cut_some (Nat.le_of_lt lt2) e).2⟩, fun b o e n _ => ?_, fun b o e _ => ⟨o, (cut_some (Nat.le_of_lt lt2) e).2⟩, fun b xs e => ?_, fun b o u e => ?_, fun b ps e => ?_⟩,
      ⟨m, hns2, fun i x v h1 h2 h3 => ?_⟩, fun x c h => (ok.nocell h).elim, I.free, fun x c h => (ok.nocell h).elim, fun p hp => ?_, fun b u e => ?_, I.len⟩
    · show b ∈ frs (φ.env :: φ.outer)
      unfold frs
      rw [List.filterMap_cons]
      exact List.mem_cons_of_mem _ hb
    · refine nH b (fun h => ?_) n
      exact absurd (Nat.lt_of_lt_of_le (cut_some (Nat.le_of_lt lt2) e).1 (hge b h)) (Nat.lt_irrefl _)
    · have e : g.T b = some (.tup xs) := e
      rw [hT] at e
      exact tupOf_eq.mp e
    · have e : g.T b = some (.frz o u) := e
      rw [hT] at e
      obtain ⟨xs, w, _⟩ := tupOf_tup e
      cases w
    · have e : g.T b = some (.tbl ps) := e
      rw [hT] at e
      obtain ⟨xs, w, _⟩ := tupOf_tup e
      cases w
    · obtain ⟨u, r, l⟩ := hlk i x v h1 h2 h3
      refine ⟨u, r, ?_⟩
      rcases l with l | ⟨k, _⟩
      · exact .inl l
      · exact (ok.nokind k).elim
    · have mem : p = φ.go ∨ p ∈ others φ g s2.heap ∨ p ∈ ip := by
        rcases List.mem_append.mp hp with h | h
        · rcases List.mem_cons.mp h with h | h
          · exact .inl h
          · exact .inr (.inl h)
        · exact .inr (.inr h)
      rcases mem with h | h | h
      · subst h
        exact ⟨z.keep _ gof _ gpin.1, gpin.2.1, gpin.2.2.1, gpin.2.2.2.1, gpin.2.2.2.2⟩
      · obtain ⟨h1, h2, h3, h4, h5⟩ := others_mem.mp h
        exact ⟨h1, nH _ h3 h4, fun w => h3 (w ▸ a0f), nf _ h2, h5⟩
      · have q := I.pin p (List.mem_append_right _ h)
        exact ⟨z.keep _ (hfp _ (.inr (.inr (.inr ⟨p, h, rfl⟩)))) _ q.1, q.2.1, q.2.2.1, q.2.2.2.1, q.2.2.2.2⟩
    · by_cases ht : ∃ xs, u = .tup xs
      · obtain ⟨xs, rfl⟩ := ht
        exact z.tup b _ (by rw [hT]; exact tupOf_eq.mpr e)
      · have bf : b ∈ g.fp := hfp b (.inr (.inr (.inl ⟨u, e, fun xs w => ht ⟨xs, w⟩⟩)))
        refine (I.hok b u e).stay (fun c v hc q => ?_) (fun _ h => h) fun _ _ h => h
        rcases hc with rfl | hc
        · exact z.keep _ bf v q
        · exact (hS c _ hc).elim
  · exact ⟨rfl, cut_size (Nat.le_of_lt lt2), fun b h => cut_get h, rfl, fun b u e => by
      rw [hT] at e
      obtain ⟨xs, w, _⟩ := tupOf_tup e
      exact ⟨xs, w⟩, fun b o h1 h2 h3 h4 h5 => List.mem_cons_of_mem _ (others_mem.mpr ⟨h2, h1, h3, h4, h5⟩), List.mem_cons_self, Nat.le_of_lt lt2, ⟨a0f, gof⟩, z.os.trans ho⟩
  · intro p hp q hq e
    have qf : q.1 ∈ g.fp := hfp _ (.inr (.inr (.inr ⟨q, hq, rfl⟩)))
    rcases List.mem_cons.mp hp with h | h
    · subst h
      exact hap _ hgo q hq e
    · exact (others_mem.mp h).2.2.1 (e ▸ qf)
end Gf
namespace Gf
open PySem PySem.Spec PyProof.Rows L2 GenW Gd
theorem objThere {P : Program} {w : World} {H : Hp} {h : Heap} {b : Addr} {u : HO} (x : ObjOk P w H h b u) : ∃ o, h.get? b = some o := by
  cases u with
  | lst xs => obtain ⟨_, its, n, _, q⟩ := x; exact ⟨_, q⟩
  | tup xs => exact tup_there x
  | dK kvs => obtain ⟨_, _, vs, _, ob, es, ep, q, _⟩ := x; exact ⟨_, q⟩
  | dT kvs => obtain ⟨_, _, xs, _, ob, es, ep, q, _⟩ := x; exact ⟨_, q⟩
  | set S n => obtain ⟨ob, es, ep, t, q, _⟩ := x; exact ⟨_, q⟩
  | ins C dx fs => obtain ⟨_, _, _, q, _⟩ := x; exact ⟨_, q⟩
  | own y => exact x
  | xd fs => obtain ⟨_, ⟨_, _, _, q, _⟩, _⟩ := x; exact ⟨_, q⟩
  | rng lo hi => obtain ⟨_, _, _, q⟩ := x; exact ⟨_, q⟩
  | frz ob u => obtain ⟨q, _⟩ := x; exact ⟨_, q⟩
  | tbl ps => exact ⟨_, (show h.get? b = some _ from x)⟩
  | met f y => exact ⟨_, (show h.get? b = some _ from x)⟩
  | ext φ => obtain ⟨_, q, _⟩ := x; exact q
/-- what a turn has left alone -/
structure Cm (φ : Fx) (g : Gh) (s0 s : Shared) (T : Hp) : Prop where
  os : s.os = s0.os
  bare : AllBare s.gens
  lo : ∀ b o, b < φ.a0 → s0.heap.get? b = some o → g.T b = none → (b ∉ frs φ.outer → s.heap.get? b = some o) ∧ (∃ sl, s.heap.get? b = some { o with slots := sl }) ∧ T b = none
  hi : ∀ b o, φ.a0 ≤ b → s0.heap.get? b = some o → b ∉ g.fp → g.T b = none → NoCell o → s.heap.get? b = some o ∧ T b = none
  up : ∀ b u, g.T b = some u → T b = some u
  tt : ∀ b u, T b = some u → ∃ xs, u = .tup xs
  ok : HOk φ.P φ.w T s.heap
  go : s.heap.get? φ.go.1 = some φ.go.2
  gz : ∀ i, Gf.slp s0.gens i → i ∉ g.gs → s.gens[i]? = s0.gens[i]?
  gr : ∀ i : Nat, s0.gens[i]? = some .running → s.gens[i]? = some .running
theorem hok_tup {P : Program} {w : World} {H : Hp} {h : Heap} (x : HOk P w H h) : HOk P w (tupOf H) h := fun b u e => by
  obtain ⟨xs, rfl, q⟩ := tupOf_tup e
  exact tup_any (x b _ q)
theorem Cm.of {φ : Fx} {g : Gh} {s0 s : Shared} {j : Ix} {ip : List (Addr × Obj)} {σ : L2.St} {H : Hp} (I : Inv (φ.cx j) ip σ H s) (hj : Jn φ g s0 j) (gz : ∀ i, Gf.slp s0.gens i → i ∉ g.gs → s.gens[i]? = s0.gens[i]?) (gr : ∀ i : Nat, s0.gens[i]? = some .running → s.gens[i]? = some .running) : Cm φ g s0 s (tupOf H) := by
  have Tn : ∀ b, H b = none → tupOf H b = none := fun b e => by unfold tupOf; rw [e]
  refine ⟨I.os.trans hj.os, I.bare, fun b o h1 h2 h3 => ?_, fun b o h1 h2 h3 h4 h5 => ?_, fun b u e => ?_, fun b u e => ?_, hok_tup I.hok, (I.pin φ.go (List.mem_append_left _ hj.go)).1, gz, gr⟩
  · have q : j.s.heap.get? b = some o := (hj.lo b h1).trans h2
    have n : j.H b = none := by rw [hj.hT]; exact h3
    refine ⟨fun hb => I.base.keep b o q n hb (List.not_mem_nil), ?_, Tn b (I.base.free b o q n List.not_mem_nil)⟩
    exact I.base.any q n List.not_mem_nil
  · have q := I.pin (b, o) (List.mem_append_left _ (hj.pn b o h1 h2 h3 h4 h5))
    exact ⟨q.1, Tn b q.2.1⟩
  · obtain ⟨xs, rfl⟩ := hj.tt b u e
    exact tupOf_eq.mpr (I.base.tups b xs (by show j.H b = _; rw [hj.hT]; exact e))
  · obtain ⟨xs, z, _⟩ := tupOf_tup e
    exact ⟨xs, z⟩
/-- an item is handed out -/
structure Yp (φ : Fx) (g : Gh) (d : PyData) (s0 : Shared) (v : Value) (s : Shared) (g' : Gh) : Prop where
  cm : Cm φ g s0 s g'.T
  fpn : ∀ b ∈ g'.fp, φ.a0 ≤ b ∧ (∃ o, s.heap.get? b = some o ∧ NoCell o) ∧ g'.T b = none ∧ (b ∈ g.fp ∨ ∀ o, s0.heap.get? b = some o → g.T b = none → ¬ NoCell o)
  val : ∃ x, RelV x v ∧ Dv (fun _ => False) g'.T x d
  gn : ∀ i ∈ g'.gs, Gf.slp s.gens i ∧ (i ∈ g.gs ∨ ¬ Gf.slp s0.gens i)
  go : φ.go.1 ∈ g'.fp
/-- the around does not matter -/
abbrev Fx.na (φ : Fx) : Fx := { φ with A := ⟨none, 0, none, none, 0⟩ }
theorem Cm.na {φ : Fx} {g : Gh} {s0 s : Shared} {T : Hp} (m : Cm φ g s0 s T) : Cm φ.na g s0 s T := ⟨m.os, m.bare, m.lo, m.hi, m.up, m.tt, m.ok, m.go, m.gz, m.gr⟩
theorem Slp.un {φ : Fx} {g : Gh} {s s2 : Shared} (z : Slp φ.na g s s2) : Slp φ g s s2 := ⟨z.os, z.bare, z.keep, z.tup, z.bs, z.funs, z.gs, z.run⟩
def pr (φ : Fx) : Prot := ⟨fun g s0 r s => (r = .ok (.ret .none) ∨ r = .ok .next) ∧ ∃ T, Cm φ.na g s0 s T, fun g d s0 v s g' => Yp φ.na g d s0 v s g', fun g s s2 => Slp φ.na g s s2⟩
/-! ### the consumer -/
def mrg (H T : Hp) : Hp := fun b => match H b with
  | some u => some u
  | none => T b
theorem mrg_some {H T : Hp} {b : Addr} {u : HO} (h : H b = some u) : mrg H T b = some u := by unfold mrg; rw [h]
theorem mrg_none {H T : Hp} {b : Addr} (h : H b = none) : mrg H T b = T b := by unfold mrg; rw [h]
/-- where the consumer stands beside the generator -/
structure Cons (X : Cx) (pins : List (Addr × Obj)) (φ : Fx) (g : Gh) (H : Hp) (h : Heap) : Prop where
  st : X.stack = φ.outer
  hP : X.prog = φ.P
  hw : X.w = φ.w
  T : ∀ b u, g.T b = some u → H b = some u
  fp : ∀ b ∈ g.fp, FpOk X pins H b
  ge : ∀ b ∈ g.fp, φ.a0 ≤ b
  obj : ∀ b ∈ g.fp, ∃ o, h.get? b = some o ∧ NoCell o
  cl : ∀ x c, X.env.cells.lookup x = some c → c < φ.a0
  nc : ∀ b u o, H b = some u → φ.a0 ≤ b → h.get? b = some o → NoCell o
  hk : ∀ b, φ.a0 ≤ b → b < X.s_0.heap.objs.size → b ∉ X.ex → H b ≠ none
  fr : ∀ b ∈ frs φ.outer, b < φ.a0
  tt : ∀ b u, g.T b = some u → ∃ xs, u = .tup xs
theorem frs_sub {X : Cx} (ok : X.Ok) : ∀ b ∈ X.fs, b ∈ frs X.stack := fun b hb => by
  rcases ok.stk with e | ⟨e, _⟩
  · rw [e]
    exact hb
  · rw [e]
    unfold frs
    rw [List.filterMap_cons]
    split
    · exact hb
    · exact List.mem_cons_of_mem _ hb
section
variable {X : Cx} {pins : List (Addr × Obj)} {σ : L2.St} {φ : Fx} {g g' : Gh} {H T : Hp} {sc s0 s : Shared}
open Classical in
noncomputable def chg (X : Cx) (pins : List (Addr × Obj)) (φ : Fx) (H : Hp) (h : Heap) : List Addr :=
  (List.range h.objs.size).filter fun b => decide (φ.a0 ≤ b ∧ H b = none ∧ (b ∈ X.ex ∨ X.s_0.heap.objs.size ≤ b) ∧ b ≠ X.env.locals ∧ ∀ p ∈ X.pn ++ pins, p.1 ≠ b)
open Classical in
theorem chg_mem {h : Heap} {b : Addr} : b ∈ chg X pins φ H h ↔ b < h.objs.size ∧ φ.a0 ≤ b ∧ H b = none ∧ (b ∈ X.ex ∨ X.s_0.heap.objs.size ≤ b) ∧ b ≠ X.env.locals ∧ ∀ p ∈ X.pn ++ pins, p.1 ≠ b := by
  unfold chg
  rw [List.mem_filter, List.mem_range, decide_eq_true_iff]
/-- an object that must stand: no one of the generator's, no cell -/
theorem Cons.stays (I : Inv X pins σ H sc) (C : Cons X pins φ g H sc.heap) {b : Addr} {o : Obj} (e : sc.heap.get? b = some o) (n : H b = none) (hb : b ∉ chg X pins φ H sc.heap) (ha : φ.a0 ≤ b) : b ∉ g.fp ∧ NoCell o := by
  by_cases h1 : b = X.env.locals
  · refine ⟨fun z => (C.fp b z).2.1 h1, fun v z => ?_⟩
    obtain ⟨m, ⟨o', es, ep, ho, hd, _⟩, _⟩ := I.loc
    rw [h1, ho] at e
    cases e
    rw [hd] at z
    cases z
  by_cases h2 : ∃ p ∈ X.pn ++ pins, p.1 = b
  · obtain ⟨p, hp, rfl⟩ := h2
    have q := I.pin p hp
    rw [q.1] at e
    cases e
    exact ⟨fun z => (C.fp _ z).2.2.2.2.2 p hp rfl, q.2.2.2.2⟩
  by_cases h3 : b ∈ X.ex ∨ X.s_0.heap.objs.size ≤ b
  · exact (hb (chg_mem.mpr ⟨Heap.lt_size e, ha, n, h3, h1, fun p hp z => h2 ⟨p, hp, z⟩⟩)).elim
  · have h4 : b ∉ X.ex := fun z => h3 (.inl z)
    have h5 : b < X.s_0.heap.objs.size := Nat.lt_of_not_le fun z => h3 (.inr z)
    exact (C.hk b ha h5 h4 n).elim
theorem Cons.nT (C : Cons X pins φ g H sc.heap) {b : Addr} (n : H b = none) : g.T b = none := by
  cases e : g.T b with
  | none => rfl
  | some u => rw [C.T b u e] at n; cases n
theorem Cons.nf (C : Cons X pins φ g H sc.heap) {b : Addr} {u : HO} (e : H b = some u) : b ∉ g.fp := fun z => by
  rw [(C.fp b z).1] at e
  cases e
/-- what the generator may hold beside the consumer is the consumer's too, or new -/
theorem Cons.same (I : Inv X pins σ H sc) (C : Cons X pins φ g H sc.heap) (hs : s0.heap = sc.heap) (m : Cm φ g s0 s T) {b : Addr} {u : HO} (e : T b = some u) : g.T b = some u ∨ H b = none := by
  cases q : H b with
  | none => exact .inr rfl
  | some v =>
    cases t : g.T b with
    | some u' =>
      have := m.up b u' t
      rw [e] at this
      exact .inl this.symm
    | none =>
      obtain ⟨o, ho⟩ := objThere (I.hok b v q)
      have ho' : s0.heap.get? b = some o := by rw [hs]; exact ho
      by_cases l : b < φ.a0
      · rw [(m.lo b o l ho' t).2.2] at e
        cases e
      · have l : φ.a0 ≤ b := Nat.le_of_not_lt l
        rw [(m.hi b o l ho' (C.nf q) t (C.nc b v o q l ho)).2] at e
        cases e
theorem back (I : Inv X pins σ H sc) (C : Cons X pins φ g H sc.heap) (hs : s0.heap = sc.heap) (ho : s0.os = sc.os) (m : Cm φ g s0 s T) : Inv X pins σ (mrg H T) s := by
  have T1 : ∀ b u, T b = some u → g.T b = some u ∨ H b = none := fun b u e => C.same I hs m e
  -- an object of the consumer's
  have K : ∀ b o, sc.heap.get? b = some o → g.T b = none → (b ∈ frs X.stack → False) → (φ.a0 ≤ b → b ∉ g.fp ∧ NoCell o) → s.heap.get? b = some o := fun b o e t nf h => by
    have e' : s0.heap.get? b = some o := by rw [hs]; exact e
    by_cases l : b < φ.a0
    · exact (m.lo b o l e' t).1 (by rw [← C.st]; exact nf)
    · obtain ⟨h1, h2⟩ := h (Nat.le_of_not_lt l)
      exact (m.hi b o (Nat.le_of_not_lt l) e' h1 t h2).1
  have trk : ∀ b u o, H b = some u → sc.heap.get? b = some o → g.T b = none → s.heap.get? b = some o := fun b u o q e t =>
    K b o e t (fun z => by rw [I.stkFree b z] at q; cases q) fun l => ⟨C.nf q, C.nc b u o q l e⟩
  refine I.call' (ch := chg X pins φ H sc.heap) (m.os.trans ho) ⟨fun b o e n nf hb => ?_, fun b o e n nf hb => ?_, fun b o e n hb => ?_, fun b o e hb => ?_, fun b xs e => mrg_some e, fun b o u e => mrg_some e, fun b ps e => ⟨#[], by rw [mrg_some e]; simp⟩⟩ (fun b u e => ?_) m.bare fun b hb => ?_
  · exact K b o e (C.nT n) nf fun l => C.stays I e n hb l
  · have l : b < φ.a0 := C.fr b (by rw [← C.st]; exact nf)
    exact (m.lo b o l (by rw [hs]; exact e) (C.nT n)).2.1
  · rw [mrg_none n]
    cases q : T b with
    | none => rfl
    | some u =>
      have e' : s0.heap.get? b = some o := by rw [hs]; exact e
      by_cases l : b < φ.a0
      · rw [(m.lo b o l e' (C.nT n)).2.2] at q
        cases q
      · obtain ⟨h1, h2⟩ := C.stays I e n hb (Nat.le_of_not_lt l)
        rw [(m.hi b o (Nat.le_of_not_lt l) e' h1 (C.nT n) h2).2] at q
        cases q
  · cases t : g.T b with
    | some u =>
      obtain ⟨xs, rfl⟩ := m.tt b u (m.up b u t)
      exact tup_there (m.ok b _ (m.up b _ t))
    | none =>
      cases q : H b with
      | some u => exact ⟨o, trk b u o q e t⟩
      | none =>
        by_cases l : b < φ.a0
        · obtain ⟨sl, z⟩ := (m.lo b o l (by rw [hs]; exact e) t).2.1
          exact ⟨_, z⟩
        · obtain ⟨h1, h2⟩ := C.stays I e q hb (Nat.le_of_not_lt l)
          exact ⟨o, (m.hi b o (Nat.le_of_not_lt l) (by rw [hs]; exact e) h1 t h2).1⟩
  · cases q : H b with
    | none =>
      rw [mrg_none q] at e
      obtain ⟨xs, rfl⟩ := m.tt b u e
      rw [C.hP, C.hw]
      exact tup_any (m.ok b _ e)
    | some v =>
      rw [mrg_some q] at e
      cases e
      cases t : g.T b with
      | some u' =>
        have := C.T b u' t
        rw [q] at this
        cases this
        obtain ⟨xs, rfl⟩ := m.tt b _ (m.up b _ t)
        rw [C.hP, C.hw]
        exact tup_any (m.ok b _ (m.up b _ t))
      | none =>
        refine (I.hok b u q).stay (fun c v hc e => ?_) (fun c e => mrg_some e) fun c xs e => mrg_some e
        rcases hc with rfl | hc
        · exact trk _ u v q e t
        · refine trk c _ v hc e ?_
          cases tc : g.T c with
          | none => rfl
          | some z =>
            obtain ⟨xs, rfl⟩ := m.tt c _ (m.up c _ tc)
            rw [C.T c _ tc] at hc
            cases hc
  · obtain ⟨h1, h2, h3, h4, h5, h6⟩ := chg_mem.mp hb
    exact ⟨h4, h5, fun x c e z => absurd (Nat.lt_of_lt_of_le (C.cl x c e) (z ▸ h2)) (Nat.lt_irrefl _), h6⟩
theorem Cons.next {d : PyData} {v : Value} (I : Inv X pins σ H sc) (C : Cons X pins φ g H sc.heap) (hs : s0.heap = sc.heap) (y : Yp φ g d s0 v s g') : Cons X pins φ g' (mrg H g'.T) s.heap := by
  have m := y.cm
  have T1 : ∀ b u, g'.T b = some u → g.T b = some u ∨ H b = none := fun b u e => C.same I hs m e
  have hn : ∀ b ∈ g'.fp, H b = none := fun b hb => by
    obtain ⟨h1, _, h3, h4⟩ := y.fpn b hb
    rcases h4 with h4 | h4
    · exact (C.fp b h4).1
    · cases q : H b with
      | none => rfl
      | some u =>
        exfalso
        have nt : g.T b = none := by
          cases t : g.T b with
          | none => rfl
          | some z => rw [m.up b z t] at h3; cases h3
        obtain ⟨o, r⟩ := objThere (I.hok b u q)
        exact h4 o (by rw [hs]; exact r) nt (C.nc b u o q h1 r)
  have nol : ∀ b ∈ g'.fp, ∀ o, b ∉ g.fp → sc.heap.get? b = some o → H b = none → NoCell o → False := fun b hb o h1 e n k => by
    obtain ⟨_, _, _, h4⟩ := y.fpn b hb
    rcases h4 with h4 | h4
    · exact h1 h4
    · exact h4 o (by rw [hs]; exact e) (C.nT n) k
  refine ⟨C.st, C.hP, C.hw, fun b u e => ?_, fun b hb => ?_, fun b hb => (y.fpn b hb).1, fun b hb => (y.fpn b hb).2.1, C.cl, fun b u o e l ho => ?_, fun b h1 h2 h3 z => ?_, C.fr, m.tt⟩
  · rcases T1 b u e with h | h
    · exact mrg_some (C.T b u h)
    · rw [mrg_none h]
      exact e
  · have h := hn b hb
    obtain ⟨h1, _, h3, h4⟩ := y.fpn b hb
    have inn : b ∈ g.fp ∨ b ∉ g.fp := Classical.em _
    refine ⟨by rw [mrg_none h]; exact h3, fun z => ?_, fun z => ?_, ?_, fun x c e z => absurd (Nat.lt_of_lt_of_le (C.cl x c e) (z ▸ h1)) (Nat.lt_irrefl _), fun p hp z => ?_⟩
    · rcases inn with i | i
      · exact (C.fp b i).2.1 z
      · obtain ⟨mm, ⟨o', es, ep, e, hd, _⟩, _⟩ := I.loc
        refine nol b hb o' i (by rw [z]; exact e) h fun v q => ?_
        rw [hd] at q
        cases q
    · exact absurd (Nat.lt_of_lt_of_le (C.fr b (by rw [← C.st]; exact frs_sub I.ok b z)) h1) (Nat.lt_irrefl _)
    · rcases inn with i | i
      · exact (C.fp b i).2.2.2.1
      · by_cases q : b ∈ X.ex
        · exact .inl q
        · refine .inr (Nat.le_of_not_lt fun l => ?_)
          exact C.hk b h1 l q h
    · rcases inn with i | i
      · exact (C.fp b i).2.2.2.2.2 p hp z
      · have q := I.pin p hp
        exact nol b hb p.2 i (by rw [← z]; exact q.1) h q.2.2.2.2
  · cases q : H b with
    | none =>
      rw [mrg_none q] at e
      obtain ⟨xs, rfl⟩ := m.tt b u e
      exact ObjOk.noCell (m.ok b _ e) trivial ho
    | some w =>
      cases t : g.T b with
      | some z =>
        obtain ⟨xs, rfl⟩ := m.tt b _ (m.up b _ t)
        exact ObjOk.noCell (m.ok b _ (m.up b _ t)) trivial ho
      | none =>
        obtain ⟨o', r⟩ := objThere (I.hok b w q)
        have k := C.nc b w o' q l r
        have := (m.hi b o' l (by rw [hs]; exact r) (C.nf q) t k).1
        rw [ho] at this
        cases this
        exact k
  · cases q : H b with
    | none => exact C.hk b h1 h2 h3 q
    | some u =>
      rw [mrg_some q] at z
      cases z
end
end Gf
/-! What is gone stays gone. -/
namespace Gf
open PySem PySem.Spec PyProof.Rows L2 GenW
open Sem (wp)
def Hl (s s' : Shared) : Prop := s.heap.objs.size ≤ s'.heap.objs.size ∧ ∀ b, b < s.heap.objs.size → s.heap.get? b = none → s'.heap.get? b = none
theorem Hl.refl (s : Shared) : Hl s s := ⟨Nat.le_refl _, fun _ _ h => h⟩
theorem Hl.trans {a b c : Shared} (x : Hl a b) (y : Hl b c) : Hl a c := ⟨Nat.le_trans x.1 y.1, fun i l h => y.2 i (Nat.lt_of_lt_of_le l x.1) (x.2 i l h)⟩
theorem hl_update {s : Shared} {a : Addr} {f : Obj → Obj} (h : (s.heap.get? a).isSome) : Hl s { s with heap := s.heap.update a f } := by
  refine ⟨by show _ ≤ (s.heap.update a f).objs.size; rw [Heap.size_update]; exact Nat.le_refl _, fun b l n => ?_⟩
  by_cases e : b = a
  · rw [← e, n] at h
    cases h
  · exact (Heap.get?_update_other _ _ (Ne.symm e)).trans n
theorem hl_push {s : Shared} {o : Obj} : Hl s { s with heap := s.heap.push o } := by
  refine ⟨by show _ ≤ (s.heap.push o).objs.size; rw [Heap.size_push]; exact Nat.le_succ _, fun b l n => ?_⟩
  show (s.heap.push o).get? b = none
  exact (Heap.get?_push_ne _ b o (Nat.ne_of_lt l)).trans n
theorem runs_hl {M : Model} {Γ : PySem.Ctx} {p : Pos} {t : Sem PySem.Fin} {fs : List Frame} {s s' : Shared} {e : End} (h : Runs M Γ p t fs s e s') : Hl s s' := by
  induction h with
  | done => exact Hl.refl _
  | raise => exact Hl.refl _
  | yield => exact Hl.refl _
  | update hs _ ih => exact (hl_update hs).trans ih
  | alloc _ ih => exact hl_push.trans ih
  | call _ _ a b => exact a.trans b
  | segRet _ _ a b => exact a.trans b
  | segGen _ _ a b => exact a.trans b
  | segSuspGen _ _ _ _ a b => exact a.trans b
  | resumeFresh _ _ _ _ a b => exact a.trans b
  | resumeSuspended _ _ _ _ a b => exact a.trans b
  | _ => assumption
theorem wakes_hl {M : Model} {Γ : PySem.Ctx} {p : Pos} {g : Nat} {r : Resume} {s s' : Shared} {res : GenResult} (h : Wakes M Γ p g r s res s') : Hl s s' := by
  unfold Wakes at h
  split at h
  · exact h.elim
  · split at h
    · obtain ⟨e1, s1, hr, _, _, rfl⟩ := h
      have q : Hl _ _ := runs_hl hr
      exact q
    · rw [h.2]; exact Hl.refl _
    · rw [h.2]; exact Hl.refl _
  · obtain ⟨e1, s1, hr, _, _, rfl⟩ := h
    have q : Hl _ _ := runs_hl hr
    exact q
  · rw [h.2]; exact Hl.refl _
  · rw [h.2]; exact Hl.refl _
theorem wp_hl {α : Type} (M : Model) (Γ : PySem.Ctx) (b : Shared) (t : Sem α) : ∀ (Q : α → Pos → Shared → Prop) (E : Value → Pos → Shared → Prop) (p : Pos) (s : Shared), Hl b s → wp M Γ t Q E p s →
    wp M Γ t (fun a q s' => Hl b s' ∧ Q a q s') (fun e q s' => Hl b s' ∧ E e q s') p s := by
  induction t with
  | pure a => exact fun Q E p s n h => ⟨n, h⟩
  | raise e => exact fun Q E p s n h => ⟨n, h⟩
  | unsupported _ => exact fun Q E p s _ h => h
  | finish _ => exact fun Q E p s _ h => h
  | register _ _ => exact fun Q E p s _ h => h
  | yield _ _ _ _ => exact fun Q E p s _ h => h
  | fork _ _ => exact fun Q E p s _ h => h
  | await _ _ _ _ _ => exact fun Q E p s _ h => h
  | rule _ k ih => exact fun Q E p s n h => ih () Q E p s n h
  | «at» q k ih => exact fun Q E p s n h => ih () Q E q s n h
  | load a _ k ih => exact fun Q E p s n h => let ⟨o, ho, h⟩ := h; ⟨o, ho, ih o Q E p s n h⟩
  | update a _ f k ih => exact fun Q E p s n h => ⟨h.1, ih () Q E p { s with heap := s.heap.update a f } (n.trans (hl_update h.1)) h.2⟩
  | loadIfAlive a k ih => exact fun Q E p s n h => ih _ Q E p s n h
  | point _ k ih => exact fun Q E p s n h => ih () Q E p s n h
  | alloc o k ih => exact fun Q E p s n h => ih s.heap.objs.size Q E p { s with heap := s.heap.push o } (n.trans hl_push) h
  | fresh k ih => exact fun Q E p s n h => ih s.toks Q E p { s with toks := s.toks + 1 } n h
  | ask k ih => exact fun Q E p s n h => ih _ Q E p s n h
  | choose src m k ih => exact fun Q E p s n h => ⟨h.1, ih _ Q E p { s with drawn := s.drawn.bump src } n h.2⟩
  | os q _ k ih => exact fun Q E p s n h => ih _ Q E p { s with os := (Os.step s.os q).1 } n h
  | call c hd _ _ k ih => exact fun Q E p s n h => let ⟨r, s', hr, h⟩ := h; ⟨r, s', hr, ih r Q E p s' (n.trans (runs_hl hr)) h⟩
  | handled own k ih => exact fun Q E p s n h => ih _ Q E p s n h
  | genState g k ih => exact fun Q E p s n h => let ⟨st, hs, h⟩ := h; ⟨st, hs, ih _ Q E p s n h⟩
  | newGen c k ih => exact fun Q E p s n h => ih s.gens.size Q E p { s with gens := s.gens.push (.fresh c) } n h
  | resume g r _ k ih => exact fun Q E p s n h => let ⟨res, s', hw, h⟩ := h; ⟨res, s', hw, ih res Q E p s' (n.trans (wakes_hl hw)) h⟩
  | stack k ih => exact fun Q E p s n h => ih _ Q E p s n h
  | thread k ih => exact fun Q E p s n h => ih _ Q E p s n h
/-- consequence, with what is gone -/
theorem hmono {α : Type} {M : Model} {A : Around} {t : Sem α} {Q Q' : α → Shared → Prop} {E E' : Value → Shared → Prop} {s : Shared} (h : wpAny M A t Q E s) (hQ : ∀ a s', Hl s s' → Q a s' → Q' a s') (hE : ∀ e s', E e s' → E' e s') : wpAny M A t Q' E' s := fun Γ p hΓ =>
  Sem.wp_mono M Γ t (fun a q s' z => hQ a s' z.1 z.2) (fun e q s' z => hE e s' z.2) p s (wp_hl M Γ s t _ _ p s (Hl.refl s) (h Γ p hΓ))
end Gf
/-! The statements of a generator that is walked by a for or by a comprehension. -/
namespace Gf
open PySem PySem.Spec PyProof.Rows L2 GenW Gd
structure GEn where
  nx : List PyData → L2.St → Hp → Prop
  rt : List PyData → VK
  bk : List PyData → L2.St → Hp → Prop := fun _ _ _ => False
  ct : List PyData → L2.St → Hp → Prop := fun _ _ _ => False
abbrev TGy := GEn → List PyData → L2.St → Hp → Prop
def GEn.at (D : GEn) (r : List PyData) : Ends := { nx := D.nx r, rt := D.rt r, bk := D.bk r, ct := D.ct r }
/-- the others that sleep or run meanwhile -/
structure Gn (φ : Fx) (g : Gh) (s0 : Shared) (zs : List (Nat × GenState)) (s : Shared) : Prop where
  zz : ∀ p ∈ zs, s.gens[p.1]? = some p.2 ∧ Gf.slp s.gens p.1 ∧ (p.1 ∈ g.gs ∨ ¬ Gf.slp s0.gens p.1)
  rn : s.gens[φ.num]? = some .running
  gz : ∀ i, Gf.slp s0.gens i → i ∉ g.gs → s.gens[i]? = s0.gens[i]?
  gr : ∀ i : Nat, s0.gens[i]? = some .running → s.gens[i]? = some .running
theorem slp_eq {G G' : Array GenState} {i : Nat} (h : Gf.slp G i) (e : G'[i]? = G[i]?) : Gf.slp G' i := by
  obtain ⟨k, l, c, p, fs, cl, z⟩ := h
  exact ⟨k, l, c, p, fs, cl, e.trans z⟩
theorem Gn.step {φ : Fx} {g : Gh} {s0 s s' : Shared} {zs : List (Nat × GenState)} (G : Gn φ g s0 zs s) (k : Kg (Gf.slp s.gens) s.gens s'.gens) : Gn φ g s0 zs s' :=
  ⟨fun i hi => ⟨(k.1 _ (G.zz i hi).2.1).trans (G.zz i hi).1, slp_eq (G.zz i hi).2.1 (k.1 _ (G.zz i hi).2.1), (G.zz i hi).2.2⟩, k.2 _ G.rn, fun i h n => (k.1 i (slp_eq h (G.gz i h n))).trans (G.gz i h n), fun i h => k.2 i (G.gr i h)⟩
/-- it runs: the turn began at s0 -/
def On (φ : Fx) (g : Gh) (s0 : Shared) (ip : List (Addr × Obj)) (zs : List (Nat × GenState)) (σ : L2.St) (H : Hp) (s : Shared) : Prop :=
  ∃ j, Inv (φ.cx j) ip σ H s ∧ Jn φ g s0 j ∧ (∀ p ∈ j.pn, ∀ q ∈ ip, p.1 ≠ q.1) ∧ (∀ q ∈ ip, φ.a0 ≤ q.1) ∧ Hl s0 s ∧ Gn φ g s0 zs s
def OnF (φ : Fx) (g : Gh) (s0 : Shared) (ip : List (Addr × Obj)) (zs : List (Nat × GenState)) (D : GEn) (r : List PyData) (f : Flow) (s : Shared) : Prop :=
  match f with
  | .next => ∃ σ H, On φ g s0 ip zs σ H s ∧ D.nx r σ H
  | .brk => ∃ σ H, On φ g s0 ip zs σ H s ∧ D.bk r σ H
  | .cont => ∃ σ H, On φ g s0 ip zs σ H s ∧ D.ct r σ H
  | .ret u => ∃ v σ H, On φ g s0 ip zs σ H s ∧ RelV v u ∧ D.rt r v H
structure At (φ : Fx) (c : Code) (fs : List Frame) (gd : Bool → Bool) : Prop where
  over : φ.A.over c fs = φ.A.deeper φ.env
  split : splitAtGen fs = none
  guard : fs.any Frame.guarded = false
  gd : gd false = false
abbrev SgF (φ : Fx) := Sg (model φ.P φ.w) φ.A (pr φ)
abbrev Then (φ : Fx) (ip : List (Addr × Obj)) (zs : List (Nat × GenState)) (c : Code) (fs : List Frame) (K : Flow → Sem PySem.Fin) (D : GEn) : Prop :=
  ∀ (r : List PyData) (g : Gh) (s0 s : Shared) (f : Flow), OnF φ g s0 ip zs D r f s → SgF φ r g s0 c (K f) fs s
structure YS (φ : Fx) (st : Stmt) (t : TGy) : Prop where
  run : ∀ (ip : List (Addr × Obj)) (zs : List (Nat × GenState)) (c : Code) (fs : List Frame) (K : Flow → Sem PySem.Fin) (J : Value → Sem PySem.Fin) (gd : Bool → Bool) (lv : List Value → List Value) (D : GEn), At φ c fs gd → Then φ ip zs c fs K D →
    ∀ (r : List PyData) (g : Gh) (s0 s : Shared) (σ : L2.St) (H : Hp), On φ g s0 ip zs σ H s → t D r σ H → SgF φ r g s0 c ((exec st φ.env).wrap K J gd lv) fs s
structure YSs (φ : Fx) (st : List Stmt) (t : TGy) : Prop where
  run : ∀ (ip : List (Addr × Obj)) (zs : List (Nat × GenState)) (c : Code) (fs : List Frame) (K : Flow → Sem PySem.Fin) (J : Value → Sem PySem.Fin) (gd : Bool → Bool) (lv : List Value → List Value) (D : GEn), At φ c fs gd → Then φ ip zs c fs K D →
    ∀ (r : List PyData) (g : Gh) (s0 s : Shared) (σ : L2.St) (H : Hp), On φ g s0 ip zs σ H s → t D r σ H → SgF φ r g s0 c ((execs st φ.env).wrap K J gd lv) fs s
section
variable {φ : Fx} {st : Stmt} {more : List Stmt}
def yPl (t : TS) : TGy := fun D r σ H => t (D.at r) σ H
theorem invUp {X : Cx} {pins : List (Addr × Obj)} {σ : L2.St} {H : Hp} {u : Shared} {D : Array GenState} (I : Inv X pins σ H (rg u D)) (hb : AllBare D → AllBare u.gens) : Inv X pins σ H u := by
  have z := inv_rg I (hb I.bare)
  exact z
/-- a run that wakes none of the others -/
theorem calm {α : Type} {M : Model} {A : Around} {t : Sem α} {Q Q' : α → Shared → Prop} {E : Value → Shared → Prop} {s : Shared} (hb : AllBare s.gens) (h : wpAny M A t Q (fun _ _ => False) (rg s (s.gens.map dead)))
    (k : ∀ a u D, Hl s u → Kg (Gf.slp s.gens) s.gens u.gens → (AllBare D → AllBare u.gens) → Q a (rg u D) → Q' a u) : wpAny M A t Q' E s :=
  hmono (asleep hb h) (fun a u l ⟨D, q, b, kg⟩ => k a u D l kg b q) fun _ _ ⟨_, z, _⟩ => z.elim
theorem inv_dd {X : Cx} {pins : List (Addr × Obj)} {σ : L2.St} {H : Hp} {s : Shared} (I : Inv X pins σ H s) : Inv X pins σ H (rg s (s.gens.map dead)) := inv_rg I (bare_dead I.bare)
theorem sp_on {g : Gh} {s0 s : Shared} {j : Ix} {ip : List (Addr × Obj)} {zs : List (Nat × GenState)} {D : GEn} {r : List PyData} {f : Flow} {G : Array GenState} (hj : Jn φ g s0 j) (ha : ∀ p ∈ j.pn, ∀ q ∈ ip, p.1 ≠ q.1) (hi : ∀ q ∈ ip, φ.a0 ≤ q.1) (hl : Hl s0 s) (gn : Gn φ g s0 zs s) (hb : AllBare G → AllBare s.gens) (h : SP (φ.cx j) ip (D.at r) f (rg s G)) : OnF φ g s0 ip zs D r f s := by
  cases f with
  | next => obtain ⟨σ, H, I, q⟩ := h; exact ⟨σ, H, ⟨j, invUp I hb, hj, ha, hi, hl, gn⟩, q⟩
  | brk => obtain ⟨σ, H, I, q⟩ := h; exact ⟨σ, H, ⟨j, invUp I hb, hj, ha, hi, hl, gn⟩, q⟩
  | cont => obtain ⟨σ, H, I, q⟩ := h; exact ⟨σ, H, ⟨j, invUp I hb, hj, ha, hi, hl, gn⟩, q⟩
  | ret u => obtain ⟨v, σ, H, I, r1, q⟩ := h; exact ⟨v, σ, H, ⟨j, invUp I hb, hj, ha, hi, hl, gn⟩, r1, q⟩
theorem y_pl {t : TS} (h : ∀ j, PS (φ.cx j) st t) : YS φ st (yPl t) := by
  refine ⟨fun ip zs c fs K J gd lv D a k r g s0 s σ H on q => ?_⟩
  obtain ⟨j, I, hj, ha, hi, hl, gn⟩ := on
  refine sg_wrap ?_
  rw [a.over]
  exact calm I.bare ((h j).run ip _ σ H (D.at r) (inv_dd I) q) fun f u G l kg hb hu => k r g s0 u f (sp_on hj ha hi (hl.trans l) (gn.step kg) hb hu)
def y0 : TGy := fun D r σ H => D.nx r σ H
theorem ys_nil : YSs φ [] y0 := ⟨fun ip zs c fs K J gd lv D a k r g s0 s σ H on q => sg_nil (k r g s0 s .next ⟨σ, H, on, q⟩)⟩
def ySeq (t u : TGy) : TGy := fun D r σ H => t { D with nx := fun r' σ' H' => u D r' σ' H' } r σ H
theorem ys_cons {t u : TGy} (a : YS φ st t) (b : YSs φ more u) : YSs φ (st :: more) (ySeq t u) := by
  refine ⟨fun ip zs c fs K J gd lv D at_ k r g s0 s σ H on q => sg_cons ?_⟩
  refine a.run ip zs c fs _ J gd lv { D with nx := fun r' σ' H' => u D r' σ' H' } at_ (fun r' g' s0' s' f hf => ?_) r g s0 s σ H on q
  cases f with
  | next =>
    obtain ⟨σ', H', on', q'⟩ := hf
    exact b.run ip zs c fs K J gd lv D at_ k r' g' s0' s' σ' H' on' q'
  | brk => exact k r' g' s0' s' .brk hf
  | cont => exact k r' g' s0' s' .cont hf
  | ret u => exact k r' g' s0' s' (.ret u) hf
def yIf (c : TT) (t u : TGy) : TGy := fun D r σ H => c σ H fun b H1 => if b = true then t D r σ H1 else u D r σ H1
theorem y_if {test : Expr} {body orelse : List Stmt} {pos : Pos} {tc : TT} {t u : TGy} (hc : ∀ j, PT (φ.cx j) test tc) (hb : YSs φ body t) (ho : YSs φ orelse u) : YS φ (.If test body orelse pos) (yIf tc t u) := by
  refine ⟨fun ip zs c fs K J gd lv D a k r g s0 s σ H on q => ?_⟩
  obtain ⟨j, I, hj, ha, hi, hl, gn⟩ := on
  rw [exec_If]
  show SgF φ r g s0 c (.at pos fun _ => ((isTrue test φ.env (eval test φ.env)) >>= fun b => if b = true then execs body φ.env else execs orelse φ.env).wrap K J gd lv) fs s
  refine sg_at (sg_bw ?_)
  rw [a.over]
  refine calm I.bare ((hc j).run ip _ σ H _ (inv_dd I) q) fun b s2 G l kg hbb h2 => ?_
  obtain ⟨H2, I2, q2⟩ := h2
  have I2 := invUp I2 hbb
  cases b with
  | true =>
    rw [if_pos rfl] at q2 ⊢
    exact hb.run ip zs c fs K J gd lv D a k r g s0 s2 σ H2 ⟨j, I2, hj, ha, hi, hl.trans l, gn.step kg⟩ q2
  | false =>
    rw [if_neg Bool.false_ne_true] at q2 ⊢
    exact ho.run ip zs c fs K J gd lv D a k r g s0 s2 σ H2 ⟨j, I2, hj, ha, hi, hl.trans l, gn.step kg⟩ q2
def yWhile (c : TT) (tb : TGy) : TGy := fun D r σ H => ∃ W : Nat → List PyData → L2.St → Hp → Prop, (∃ m, W m r σ H) ∧ ∀ m r σ H, W m r σ H →
  c σ H fun b H1 => if b = true then ∃ N : List PyData → L2.St → Hp → Prop, (∀ r' σ' H', N r' σ' H' → ∃ m', m' < m ∧ W m' r' σ' H') ∧ tb { D with nx := N, ct := N, bk := D.nx } r σ H1 else D.nx r σ H1
theorem at_loop {c c' : Code} {fs : List Frame} {gd : Bool → Bool} {k : Result → Sem PySem.Fin} {l kp : List Value} {p : Pos} (a : At φ c fs gd) (hw : c'.weight = 0) (hu : c'.cUnits = 0) : At φ c' (.ret k none (gd false) l c p kp :: fs) id where
  over := (over_loop hw hu).trans a.over
  split := by
    show (splitAtGen fs).map _ = none
    rw [a.split]
    rfl
  guard := by
    show (gd false || fs.any Frame.guarded) = false
    rw [a.gd, a.guard]
    rfl
  gd := rfl
theorem y_while {test : Expr} {body : List Stmt} {pos : Pos} {tc : TT} {tb : TGy} (hc : ∀ j, PT (φ.cx j) test tc) (hb : YSs φ body tb) : YS φ (.While test body [] pos) (yWhile tc tb) := by
  refine ⟨fun ip zs c fs K J gd lv D a k r g s0 s σ H on q => ?_⟩
  obtain ⟨W, ⟨m0, w0⟩, turn⟩ := q
  refine sg_at (sg_call fun p => ?_)
  have al := fun (kk : Result → Sem PySem.Fin) => at_loop (k := kk) (c' := .whileLoop test body [] φ.env) (l := lv []) (kp := []) (p := p) a rfl rfl
  have loop : ∀ (m : Nat) (r : List PyData) (g : Gh) (s0 s : Shared) (σ : L2.St) (H : Hp), W m r σ H → On φ g s0 ip zs σ H s →
      SgF φ r g s0 (.whileLoop test body [] φ.env) ((model φ.P φ.w).den (.whileLoop test body [] φ.env))
        (.ret (fun r => ((match r with | .ok f => (.pure f : Sem Flow) | .error e => .raise e).onRaise (cameBack φ.env)).wrap K J gd lv) none (gd false) (lv []) c p [] :: fs) s := by
    intro m
    induction m using Nat.strongRecOn with
    | ind m ih =>
      intro r g s0 s σ H w on
      obtain ⟨j, I, hj, ha, hi, hl, gn⟩ := on
      refine sg_turn ?_
      rw [(al _).over]
      refine calm I.bare ((hc j).run ip _ σ H _ (inv_dd I) (turn m r σ H w)) fun b s2 G l kg hbb h2 => ?_
      obtain ⟨H2, I2, q2⟩ := h2
      have I2 := invUp I2 hbb
      cases b with
      | true =>
        rw [if_pos rfl] at q2 ⊢
        obtain ⟨N, hN, q2⟩ := q2
        refine hb.run ip zs _ _ _ _ id id { D with nx := N, ct := N, bk := D.nx } (al _) (fun r3 g3 s03 s3 f h3 => ?_) r g s0 s2 σ H2 ⟨j, I2, hj, ha, hi, hl.trans l, gn.step kg⟩ q2
        cases f with
        | next =>
          obtain ⟨σ3, H3, on3, n3⟩ := h3
          obtain ⟨m', hm, w3⟩ := hN r3 σ3 H3 n3
          exact sg_again rfl (ih m' hm r3 g3 s03 s3 σ3 H3 w3 on3)
        | cont =>
          obtain ⟨σ3, H3, on3, n3⟩ := h3
          obtain ⟨m', hm, w3⟩ := hN r3 σ3 H3 n3
          exact sg_again rfl (ih m' hm r3 g3 s03 s3 σ3 H3 w3 on3)
        | brk => exact sg_leaf (.ok .next) (k r3 g3 s03 s3 .next h3)
        | ret v => exact sg_leaf (.ok (.ret v)) (k r3 g3 s03 s3 (.ret v) h3)
      | false =>
        rw [if_neg Bool.false_ne_true] at q2 ⊢
        exact sg_leaf (.ok .next) (k r g s0 s2 .next ⟨σ, H2, ⟨j, I2, hj, ha, hi, hl.trans l, gn.step kg⟩, q2⟩)
  exact loop m0 r g s0 s σ H w0 on
/-! ### yield -/
theorem inv_strc {j : Ix} {ip : List (Addr × Obj)} {σ : L2.St} {H : Hp} {s s0 : Shared} {g : Gh} (I : Inv (φ.cx j) ip σ H s) (hj : Jn φ g s0 j) : Inv (φ.cx j) ip σ (strcOf H) s := by
  have tt : ∀ b u, j.H b = some u → ∃ xs, u = .tup xs := fun b u e => hj.tt b u (by rw [← hj.hT]; exact e)
  refine ⟨I.ok, I.os, I.bare, ⟨I.base.keep, I.base.slot, fun b o e n hx => strcOf_none (I.base.free b o e n hx), I.base.there, fun b xs e => strcOf_eq (I.base.tups b xs e) trivial, fun b o u e => ?_, fun b ps e => ?_⟩, I.loc, I.cell, strcOf_none I.free, fun x c h => strcOf_none (I.freeC x c h), fun p hp => ?_, fun b u e => ?_, I.len⟩
  · obtain ⟨xs, z⟩ := tt b _ e
    cases z
  · obtain ⟨xs, z⟩ := tt b _ e
    cases z
  · obtain ⟨a, b, c⟩ := I.pin p hp
    exact ⟨a, strcOf_none b, c⟩
  · obtain ⟨e1, e2⟩ := strcOf_of e
    have x := I.hok b u e1
    cases u with
    | lst xs => exact x
    | tup xs => exact x
    | dK kvs => exact x
    | dT kvs =>
      obtain ⟨z, y, xs, r, c⟩ := x
      exact ⟨z, y, xs, L2.Paired.mapP r fun p q z => ⟨z.1, strcOf_eq z.2.1 trivial, z.2.2⟩, c⟩
    | _ => exact e2.elim
open Classical in
/-- what is the generator's own while it sleeps -/
noncomputable def ownOf (φ : Fx) (ip : List (Addr × Obj)) (H : Hp) (h : Heap) : List Addr :=
  φ.a0 :: φ.go.1 :: (ip.map (·.1) ++ (List.range h.objs.size).filter fun b => decide (∃ u, H b = some u ∧ ∀ xs, u ≠ .tup xs))
open Classical in
theorem ownOf_mem {ip : List (Addr × Obj)} {H : Hp} {h : Heap} {b : Addr} : b ∈ ownOf φ ip H h ↔ b = φ.a0 ∨ b = φ.go.1 ∨ (∃ p ∈ ip, p.1 = b) ∨ (b < h.objs.size ∧ ∃ u, H b = some u ∧ ∀ xs, u ≠ .tup xs) := by
  unfold ownOf
  rw [List.mem_cons, List.mem_cons, List.mem_append, List.mem_map, List.mem_filter, List.mem_range, decide_eq_true_iff]
/-- what it holds is not below its frame, but for the tuples -/
theorem on_ge {j : Ix} {ip : List (Addr × Obj)} {σ : L2.St} {H : Hp} {s s0 : Shared} {g : Gh} (I : Inv (φ.cx j) ip σ H s) (hj : Jn φ g s0 j) (hl : Hl s0 s) {b : Addr} {u : HO} (e : H b = some u) (h : ∀ xs, u ≠ .tup xs) : φ.a0 ≤ b := by
  refine Nat.le_of_not_lt fun l => ?_
  obtain ⟨o, ho⟩ := objThere (I.hok b u e)
  cases q0 : s0.heap.get? b with
  | none =>
    rw [hl.2 b (Nat.lt_of_lt_of_le l hj.hz) q0] at ho
    cases ho
  | some o' =>
    have q : j.s.heap.get? b = some o' := (hj.lo b l).trans q0
    cases n : j.H b with
    | none =>
      have := I.base.free b o' q n List.not_mem_nil
      rw [e] at this
      cases this
    | some v =>
      obtain ⟨xs, rfl⟩ := hj.tt b v (by rw [← hj.hT]; exact n)
      have := I.base.tups b xs n
      rw [e] at this
      exact h xs (Option.some.inj this)
def yYld (te : TE) : TGy := fun D r σ H => ∃ d r', r = d :: r' ∧ te σ H fun x H1 => Dv (fun _ => False) (tupOf H1) x d ∧ D.nx r' σ (strcOf H1)
theorem y_yield {e : Expr} {te : TE} {yp pos : Pos} (ok : FxOk φ) (he : ∀ j, PE (φ.cx j) e te) (hco : φ.env.scope.isCoroutine = false := by rfl) (hin : interactive φ.env = false := by rfl) : YS φ (.Expr (.Yield (some e) yp) pos) (yYld te) := by
  refine ⟨fun ip zs c fs K J gd lv D a k r g s0 s σ H on q => ?_⟩
  obtain ⟨j, I, hj, ha, hi, hl, gn⟩ := on
  obtain ⟨d, r', rfl, q⟩ := q
  refine sg_Yield a.split a.gd a.guard ?_ hco hin
  rw [a.over]
  refine calm I.bare ((he j).run ip _ σ H _ (inv_dd I) q) fun v s1 G l kg hbb h1 => ?_
  obtain ⟨x, H1, I1, rv, dv, q1⟩ := h1
  have I1 := invUp I1 hbb
  have gn1 := gn.step kg
  have I2 := inv_strc I1 hj
  have hl1 := hl.trans l
  have nT : ∀ {b}, H1 b = none → tupOf H1 b = none := fun {b} e => by unfold tupOf; rw [e]
  refine ⟨⟨tupOf H1, ownOf φ ip (strcOf H1) s1.heap, zs.map (·.1)⟩, ⟨(Cm.of I1 hj gn1.gz gn1.gr).na, fun b hb => ?_, ⟨x, rv, dv⟩, fun i hi => by
    obtain ⟨p, hp, rfl⟩ := List.mem_map.mp hi
    exact (gn1.zz p hp).2, ownOf_mem.mpr (.inr (.inl rfl))⟩, fun s2 z => ?_⟩
  · rcases ownOf_mem.mp hb with e | e | ⟨p, hp, e⟩ | ⟨_, u, e, hu⟩
    · subst e
      obtain ⟨m, ⟨o, es, ep, ho, hd, _⟩, _⟩ := I1.loc
      exact ⟨Nat.le_refl _, ⟨o, ho, fun v z => by rw [hd] at z; cases z⟩, nT I1.free, .inl hj.own.1⟩
    · subst e
      have z := I1.pin φ.go (List.mem_append_left _ hj.go)
      exact ⟨Nat.le_of_lt ok.ga, ⟨_, z.1, ok.gn⟩, nT z.2.1, .inl hj.own.2⟩
    · subst e
      have z := I1.pin p (List.mem_append_right _ hp)
      refine ⟨hi p hp, ⟨_, z.1, z.2.2.2.2⟩, nT z.2.1, ?_⟩
      refine Classical.or_iff_not_imp_left.mpr fun nf o ho t kc => ?_
      exact ha _ (hj.pn p.1 o (hi p hp) ho nf t kc) p hp rfl
    · have st := strcOf_of e
      have ge := on_ge I1 hj hl1 st.1 hu
      obtain ⟨o, ho⟩ := objThere (I2.hok b u e)
      refine ⟨ge, ⟨o, ho, ObjOk.noCell (I2.hok b u e) st.2 ho⟩, ?_, ?_⟩
      · show tupOf H1 b = none
        cases q : tupOf H1 b with
        | none => rfl
        | some w =>
          obtain ⟨xs, _, q2⟩ := tupOf_tup q
          rw [st.1] at q2
          exact (hu xs (Option.some.inj q2)).elim
      · refine Classical.or_iff_not_imp_left.mpr fun nf o' ho' t kc => ?_
        have z := I1.pin (b, o') (List.mem_append_left _ (hj.pn b o' ge ho' nf t kc))
        have z := z.2.1
        rw [st.1] at z
        cases z
  · have T2 : tupOf H1 = tupOf (strcOf H1) := tupOf_strc.symm
    have f1 : ∀ b, (b = φ.a0 ∨ b = φ.go.1 ∨ (∃ u, strcOf H1 b = some u ∧ ∀ xs, u ≠ .tup xs) ∨ ∃ p ∈ ip, p.1 = b) → b ∈ ownOf φ ip (strcOf H1) s1.heap := fun b hb => by
      refine ownOf_mem.mpr ?_
      rcases hb with e | e | ⟨u, e, hu⟩ | e
      · exact .inl e
      · exact .inr (.inl e)
      · exact .inr (.inr (.inr ⟨I2.hok.lt e, u, e, hu⟩))
      · exact .inr (.inr (.inl e))
    have f2 : ∀ b ∈ ownOf φ ip (strcOf H1) s1.heap, φ.a0 ≤ b := fun b hb => by
      rcases ownOf_mem.mp hb with e | e | ⟨p, hp, e⟩ | ⟨_, u, e, hu⟩
      · subst e
        exact Nat.le_refl _
      · subst e
        exact Nat.le_of_lt ok.ga
      · subst e
        exact hi p hp
      · exact on_ge I1 hj hl1 (strcOf_of e).1 hu
    obtain ⟨j2, I3, hj3, ha3⟩ := wake ok (g := ⟨tupOf H1, ownOf φ ip (strcOf H1) s1.heap, zs.map (·.1)⟩) I2 hj.go (fun b u e => (strcOf_of e).2) T2 f1 f2 ha (I1.os.trans (hj.os.trans hj.oo)) z.un
    exact k r' _ s2 s2 .next ⟨σ, strcOf H1, ⟨j2, I3, hj3, ha3, hi, Hl.refl _, ⟨fun p hp => ⟨(z.gs _ (List.mem_map.mpr ⟨p, hp, rfl⟩)).trans (gn1.zz p hp).1, slp_eq (gn1.zz p hp).2.1 (z.gs _ (List.mem_map.mpr ⟨p, hp, rfl⟩)), .inl (List.mem_map.mpr ⟨p, hp, rfl⟩)⟩, z.run, fun _ _ _ => rfl, fun _ h => h⟩⟩, q1⟩
end
end Gf
/-! A generator def for such walks: what its call gives. -/
namespace Gf
open PySem PySem.Spec PyProof.Rows L2 GenW Gd
def Made (P : Program) (w : World) (base : Heap) (k : Nat) (outer : List Env) (T : Hp) (L : List PyData) (sc : Shared) (u : Value) (s' : Shared) : Prop :=
  ∃ (φ : Fx) (n : Nat) (c : Code), φ.na = φ ∧ φ.num = n ∧ u = .ref φ.go.1 ∧ (φ.P = P ∧ φ.w = w ∧ φ.base = base ∧ φ.outer = outer ∧ φ.a0 = sc.heap.objs.size) ∧ φ.a0 < φ.go.1 ∧ (∀ b ∈ frs outer, b < φ.a0) ∧ s'.heap.IsGen φ.go.1 n ∧ s'.gens[n]? = some (.fresh c) ∧ s'.os = sc.os ∧ AllBare s'.gens ∧
    (∀ b o, sc.heap.get? b = some o → s'.heap.get? b = some o) ∧ (∃ o, s'.heap.get? φ.a0 = some o ∧ NoCell o) ∧ s'.heap.get? φ.go.1 = some φ.go.2 ∧ NoCell φ.go.2 ∧
    ∀ A, Room k A → A.frames = some outer → ∀ s2, Slp φ ⟨T, [φ.a0, φ.go.1], []⟩ s' s2 → Goes (model P w) A (pr φ) L ⟨T, [φ.a0, φ.go.1], []⟩ (.fresh c) s2
/-- a generator def's promise: its arguments over tuples, what it hands out -/
abbrev SpY := List V → Hp → List PyData → Prop
structure GFnY (P : Program) (w : World) (K : PySem.W.Frag) (mg : Str → Option Value) (base : Heap) (k : Nat) (f : Addr) (fd : FuncData) (ps : List Str) (sp : SpY) : Prop where
  len : ∀ vs T L, sp vs T L → vs.length = ps.length
  run : ∀ (A : Around) (outer : List Env) (s : Shared) (H T : Hp) (args : Args) (us : List Value) (vs : List V) (L : List PyData), Room k A → Env0 P w K mg base A outer s H → (∀ b u, T b = some u → H b = some u ∧ ∃ xs, u = .tup xs) → BindsTo s fd args (ps.zip us) → Vals vs us → sp vs T L →
    codeAny (model P w) A (.call (.ref f) args) (fun r s' => match r with | .ok (.ret u) => Made P w base k outer T L s u s' | _ => False) s
abbrev Fx.mk0 (P : Program) (w : World) (K : PySem.W.Frag) (mg : Str → Option Value) (base : Heap) (N : List Str) (qual : Str) (scope : Scope) (f : Addr) (cd : Value) (A : Around) (outer : List Env) (a0 : Addr) (go : Addr × Obj) (num : Nat) (os : OsState) : Fx := ⟨P, w, K, mg, base, N, qual, scope, f, cd, A, outer, a0, go, num, os⟩
def Dend : GEn := { nx := fun r _ _ => r = [], rt := fun r v _ => v = .non ∧ r = [] }
theorem gfny_of {P : Program} {w : World} {K : PySem.W.Frag} {mg : Str → Option Value} {base : Heap} {k : Nat} {f : Addr} {name qual : Str} {params : Arguments} {body : List Stmt} {scope : Scope} {dV kV doc pm cdv ct oc : Value} {an od : Option Addr}
    {osl : Array (Option Value)} {N ps : List Str} {sp : SpY} (lk : K.lookup f = some ⟨oc, od, .func (PySem.W.fnOf name qual params body scope dV kV doc pm an cdv ct), osl⟩) (hcd : PySem.W.codeIn K cdv qual = true) (S : GScope N ps scope) (nc : ∀ y ∈ scope.names, y.2 ≠ .cell ∧ y.2 ≠ .free)
    (len : ∀ vs T L, sp vs T L → vs.length = ps.length)
    (hbody : ∀ (A : Around) (outer : List Env) (a0 : Addr) (go : Addr × Obj) (num : Nat) (os : OsState) (vs : List V) (T : Hp) (L : List PyData), Room k (A.deeper (envOfC qual scope a0 f cdv)) → FxOk (Fx.mk0 P w K mg base N qual scope f cdv A outer a0 go num os) → sp vs T L →
      ∃ t, YSs (Fx.mk0 P w K mg base N qual scope f cdv A outer a0 go num os) body t ∧ t Dend L (start N vs) T) :
    GFnY P w K mg base (k + 1) f (PySem.W.fnOf name qual params body scope dV kV doc pm an cdv ct) ps sp := by
  refine ⟨len, fun A outer s H T args us vs L hr e0 hT hb r hsp => ?_⟩
  have hl := len _ _ _ hsp
  have KX : K.In s.heap := e0.mod.kin.keeps fun b o e => (e0.bs b o e).1
  have lim : s.heap.NoLimit := e0.mod.nolimit.keeps fun b o e => (e0.bs b o e).1
  have Tn : ∀ b, H b = none → T b = none := fun b e => by
    cases q : T b with
    | none => rfl
    | some u => rw [(hT b u q).1] at e; cases e
  have tokT : ∀ {h : Heap}, HOk P w H h → HOk P w T h := fun {h} x b u e => by
    obtain ⟨e1, xs, rfl⟩ := hT b u e
    exact tup_any (x b _ e1)
  have hkind : ∀ y ∈ ps.zip us, scope.names.lookup y.1 = some .local ∨ (scope.names.lookup y.1 = some .cell ∧ ((cellsFrom (s.heap.objs.size + 1) scope.names []).lookup y.1).isSome = true) := fun ⟨n, v⟩ hy => by
    rcases S.par n (List.of_mem_zip hy).1 with q | q
    · exact .inl q
    · exact ((nc _ (PySem.mem_of_lookup q)).1 rfl).elim
  refine codeAny_call_generator hr.depth (KX _ _ lk) rfl S.co S.gen rfl (PySem.W.codeRec_of KX hcd) (hb _ _ _ _ ?_)
  refine wpAny_newFunctionEnv_cells S.kind hkind fun env he s1 x => ?_
  subst he
  have lim1 : s1.heap.NoLimit := lim.keeps x.toInCall.keep
  refine ⟨lim1, ?_⟩
  obtain ⟨h1, tk, es1, hk1⟩ := x.done
  have os1 : s1.os = s.os := by rw [es1]
  have gen1 : s1.gens = s.gens := by rw [es1]
  have lt1 : s.heap.objs.size < s1.heap.objs.size := x.toInCall.ns.lt
  have frl : ∀ b ∈ frs outer, b < s.heap.objs.size := fun b hb => by
    obtain ⟨_, o, ho, _⟩ := e0.funs.mem hb
    exact Heap.lt_size ho
  have fin : ∀ (go : Obj) (nm qn : Value) (tk2 : Nat), go.cls = .type "generator" → go.data = .fields #[.int s1.gens.size 0, nm, qn] → go.slots = #[] → (∀ h : Heap, (h.push go).get? h.objs.size = some go) →
      Made P w base (k + 1) outer T L s (.ref s1.heap.objs.size) { s1 with gens := s1.gens.push (.fresh (.func body (envOfC qual scope s.heap.objs.size f cdv))), toks := tk2, heap := s1.heap.push go } := by
    intro go nm qn tk2 hgc hgd hgs hgp
    have ngo : NoCell go := fun v q => by rw [hgd] at q; cases q
    have kp2 : ∀ b o, s1.heap.get? b = some o → (s1.heap.push go).get? b = some o := fun b o e => Heap.get?_push_of_some _ e
    obtain ⟨m1, ⟨o1, es, ep, ho1, hd1, _⟩, _⟩ : ∃ m, s1.heap.Ns s.heap.objs.size m ∧ True := ⟨_, x.toInCall.ns, trivial⟩
    refine ⟨(Fx.mk0 P w K mg base N qual scope f cdv A outer s.heap.objs.size (s1.heap.objs.size, go) s1.gens.size s.os).na, s1.gens.size, _, rfl, rfl, rfl, ⟨rfl, rfl, rfl, rfl, rfl⟩, lt1, frl, ⟨go, nm, qn, hgp _, hgc, hgd, hgs⟩, Array.getElem?_push_size .., os1, AllBare.push (by rw [gen1]; exact e0.bare) rfl,
      fun b o e => kp2 b o (x.toInCall.keep b o e), ⟨o1, kp2 _ _ ho1, fun v q => by rw [hd1] at q; cases q⟩, hgp _, ngo, ?_⟩
    intro Aw hrw hfr s2 z
    have ok : FxOk (Fx.mk0 P w K mg base N qual scope f cdv Aw outer s.heap.objs.size (s1.heap.objs.size, go) s1.gens.size s.os) := ⟨e0.mod, S.kind, nc, e0.bsz, frl, hrw.hd, hfr, lt1, ngo⟩
    obtain ⟨t, ht, hq⟩ := hbody Aw outer s.heap.objs.size (s1.heap.objs.size, go) s1.gens.size s.os vs T L (hrw.deeper _) ok hsp
    have e0T : Env0 P w K mg base Aw outer s T := ⟨hfr, e0.mod, fun b o e => ⟨(e0.bs b o e).1, Tn b (e0.bs b o e).2⟩, e0.bsz, e0.funs, fun b hb => Tn b (e0.frf b hb), tokT e0.hok, e0.bare⟩
    have Ia : Inv (gcxOf P w K mg base N qual scope f cdv Aw outer s T (fun _ _ _ => False) []) [] (start N vs) T s1 := inv_startG S hrw.hd e0T hl r x
    generalize hφ : Fx.mk0 P w K mg base N qual scope f cdv Aw outer s.heap.objs.size (s1.heap.objs.size, go) s1.gens.size s.os = φ at ok ht
    have Ib : Inv (φ.cx ⟨s, T, []⟩) [] (start N vs) T s1 := by
      subst hφ
      exact ⟨⟨Ia.ok.mod, Ia.ok.kind, Ia.ok.glob, Ia.ok.blt, Ia.ok.above, Ia.ok.inj, Ia.ok.has, Ia.ok.cab, Ia.ok.hd, Ia.ok.frames, Ia.ok.stk, Ia.ok.exf, Ia.ok.bs, Ia.ok.bsz, Ia.ok.noex, Ia.ok.exfs, Ia.ok.funs, Ia.ok.frf⟩, Ia.os, Ia.bare, Ia.base, Ia.loc, Ia.cell, Ia.free, Ia.freeC, Ia.pin, Ia.hok, Ia.len⟩
    have Ic : Inv (φ.cx ⟨s, T, []⟩) [] (start N vs) T { s1 with gens := s1.gens.push (.fresh (.func body (envOfC qual scope s.heap.objs.size f cdv))), toks := tk2, heap := s1.heap.push go } :=
      Ib.call' (ch := []) rfl (Un.kept kp2) (Ib.hok.kept kp2) (AllBare.push (by rw [gen1]; exact e0.bare) rfl) fun b z => (List.not_mem_nil z).elim
    have gof : φ.go = (s1.heap.objs.size, go) := by subst hφ; rfl
    have a0f : φ.a0 = s.heap.objs.size := by subst hφ; rfl
    have ouf : φ.outer = outer := by subst hφ; rfl
    have Hgo : T s1.heap.objs.size = none := Ib.hok.fresh (Nat.le_refl _)
    have Id : Inv (φ.cx ⟨s, T, [φ.go]⟩) [] (start N vs) T { s1 with gens := s1.gens.push (.fresh (.func body (envOfC qual scope s.heap.objs.size f cdv))), toks := tk2, heap := s1.heap.push go } := by
      refine ⟨⟨Ic.ok.mod, Ic.ok.kind, Ic.ok.glob, Ic.ok.blt, Ic.ok.above, Ic.ok.inj, Ic.ok.has, Ic.ok.cab, Ic.ok.hd, Ic.ok.frames, Ic.ok.stk, Ic.ok.exf, Ic.ok.bs, Ic.ok.bsz, Ic.ok.noex, Ic.ok.exfs, Ic.ok.funs, Ic.ok.frf⟩, Ic.os, Ic.bare, Ic.base, Ic.loc, Ic.cell, Ic.free, Ic.freeC, fun p hp => ?_, Ic.hok, Ic.len⟩
      have e : p = φ.go := by
        rcases List.mem_append.mp hp with h | h
        · exact List.mem_singleton.mp h
        · exact (List.not_mem_nil h).elim
      subst e
      refine ⟨by rw [gof]; exact hgp _, by rw [gof]; exact Hgo, ?_, ?_, by rw [gof]; exact ngo⟩
      · show φ.go.1 ≠ φ.a0
        exact Nat.ne_of_gt ok.ga
      · show φ.go.1 ∉ frs φ.outer
        intro h
        exact absurd (Nat.lt_trans (ok.fr _ h) ok.ga) (Nat.lt_irrefl _)
    have tt : ∀ b u, T b = some u → ∃ xs, u = .tup xs := fun b u e => (hT b u e).2
    have hTT : T = tupOf T := by
      funext b
      cases e : T b with
      | none => unfold tupOf; rw [e]
      | some u =>
        obtain ⟨xs, rfl⟩ := tt b u e
        exact (tupOf_eq.mpr e).symm
    have z' : Slp φ ⟨T, [φ.a0, φ.go.1], []⟩ { s1 with gens := s1.gens.push (.fresh (.func body (envOfC qual scope s.heap.objs.size f cdv))), toks := tk2, heap := s1.heap.push go } s2 := by
      subst hφ
      exact ⟨z.os, z.bare, z.keep, z.tup, z.bs, z.funs, z.gs, z.run⟩
    have f1 : ∀ b, (b = φ.a0 ∨ b = φ.go.1 ∨ (∃ u, T b = some u ∧ ∀ xs, u ≠ .tup xs) ∨ ∃ p ∈ ([] : List (Addr × Obj)), p.1 = b) → b ∈ [φ.a0, φ.go.1] := fun b hb => by
      rcases hb with e | e | ⟨u, e, hu⟩ | ⟨p, hp, _⟩
      · rw [e]; exact List.mem_cons_self
      · rw [e]; exact List.mem_cons_of_mem _ List.mem_cons_self
      · obtain ⟨xs, w⟩ := tt b u e
        exact (hu xs w).elim
      · exact (List.not_mem_nil hp).elim
    have f2 : ∀ b ∈ [φ.a0, φ.go.1], φ.a0 ≤ b := fun b hb => by
      rcases List.mem_cons.mp hb with e | hb
      · rw [e]; exact Nat.le_refl _
      · rw [List.mem_singleton.mp hb]; exact Nat.le_of_lt ok.ga
    obtain ⟨j2, I2, hj2, ha2⟩ := wake ok (g := ⟨T, [φ.a0, φ.go.1], []⟩) Id List.mem_cons_self (fun b u e => by obtain ⟨xs, rfl⟩ := tt b u e; trivial) hTT f1 f2 (fun p hp q hq => (List.not_mem_nil hq).elim) (by subst hφ; exact os1) z'
    have body0 : SgF φ L ⟨T, [φ.a0, φ.go.1], []⟩ s2 (.func body φ.env) ((model φ.P φ.w).den (.func body φ.env)) [] s2 := by
      refine sg_func ?_
      refine ht.run [] [] _ [] _ _ id id Dend ⟨over_func, rfl, rfl, rfl⟩ (fun r g s0 s3 fl hf => ?_) L _ s2 s2 (start N vs) T ⟨j2, I2, hj2, ha2, (fun q hq => (List.not_mem_nil hq).elim), Hl.refl _, ⟨fun i h => (List.not_mem_nil h).elim, z'.run, fun _ _ _ => rfl, fun _ h => h⟩⟩ hq
      cases fl with
      | next =>
        obtain ⟨σ', H', ⟨j3, I3, hj3, _, _, _, g3⟩, e⟩ := hf
        have e : r = [] := e
        subst e
        exact sg_end (.ok (.ret .none)) ⟨.inl rfl, _, (Cm.of I3 hj3 g3.gz g3.gr).na⟩
      | brk => obtain ⟨_, _, _, q⟩ := hf; exact q.elim
      | cont => obtain ⟨_, _, _, q⟩ := hf; exact q.elim
      | ret u =>
        obtain ⟨v, σ', H', ⟨j3, I3, hj3, _, _, _, g3⟩, rv, ev, e⟩ := hf
        subst e ev
        have eu : u = Value.none := rv
        subst eu
        exact sg_end (.ok (.ret .none)) ⟨.inl rfl, _, (Cm.of I3 hj3 g3.gz g3.gr).na⟩
    subst hφ
    exact body0
  exact fin _ _ _ _ rfl rfl rfl fun h => Heap.get?_push_size _ rfl
end Gf
/-! The walk over a generator, from the consumer's side. -/
namespace Gf
open PySem PySem.Spec PyProof.Rows L2 GenW Gd
open Classical in
/-- young cells are forgotten -/
noncomputable def dropc (a0 : Addr) (h : Heap) (H : Hp) : Hp := fun b => if a0 ≤ b ∧ ∃ o, h.get? b = some o ∧ ¬ NoCell o then none else H b
theorem dropc_some {a0 : Addr} {h : Heap} {H : Hp} {b : Addr} {u : HO} (e : dropc a0 h H b = some u) : H b = some u ∧ (a0 ≤ b → ∀ o, h.get? b = some o → NoCell o) := by
  unfold dropc at e
  split at e
  · cases e
  · rename_i n
    exact ⟨e, fun l o ho => Classical.byContradiction fun z => n ⟨l, o, ho, z⟩⟩
theorem dropc_keep {a0 : Addr} {h : Heap} {H : Hp} {b : Addr} {u : HO} (e : H b = some u) (k : a0 ≤ b → ∀ o, h.get? b = some o → NoCell o) : dropc a0 h H b = some u := by
  unfold dropc
  rw [if_neg (fun ⟨l, o, ho, z⟩ => z (k l o ho))]
  exact e
theorem dropc_none {a0 : Addr} {h : Heap} {H : Hp} {b : Addr} (e : H b = none) : dropc a0 h H b = none := by
  unfold dropc
  split
  · rfl
  · exact e
theorem objDrop {P : Program} {w : World} {H : Hp} {h : Heap} {a0 : Addr} (hok : HOk P w H h) : ∀ {a : Addr} {u : HO}, ObjOk P w H h a u → ObjOk P w (dropc a0 h H) h a u := by
  intro a u
  induction u with
  | dT kvs =>
    rintro ⟨z, y, xs, r, c⟩
    exact ⟨z, y, xs, L2.Paired.mapP r fun p q z => ⟨z.1, dropc_keep z.2.1 fun _ o ho => ObjOk.noCell (hok _ _ z.2.1) trivial ho, z.2.2⟩, c⟩
  | ins C dx fs =>
    rintro ⟨d, z, ne, e, mA, ⟨od, es, ep, e2, hd, c⟩, r⟩
    refine ⟨dropc_keep d fun _ o ho v q => ?_, z, ne, e, mA, ⟨od, es, ep, e2, hd, c⟩, r⟩
    rw [e2] at ho
    cases ho
    rw [hd] at q
    cases q
  | frz o u ih => exact fun ⟨e, q⟩ => ⟨e, ih q⟩
  | _ => exact fun x => x
theorem Inv.drop {X : Cx} {pins : List (Addr × Obj)} {σ : L2.St} {H : Hp} {s : Shared} {a0 : Addr} (I : Inv X pins σ H s) (hz : ∀ b, a0 ≤ b → (∀ o u, X.H_0 b ≠ some (.frz o u)) ∧ ∀ ps, X.H_0 b ≠ some (.tbl ps)) : Inv X pins σ (dropc a0 s.heap H) s :=
  ⟨I.ok, I.os, I.bare, ⟨I.base.keep, I.base.slot, fun b o e n hx => dropc_none (I.base.free b o e n hx), I.base.there, fun b xs e => dropc_keep (I.base.tups b xs e) fun _ o ho => ObjOk.noCell (I.hok _ _ (I.base.tups b xs e)) trivial ho,
    fun b o u e => dropc_keep (I.base.frzs b o u e) fun l => ((hz b l).1 o u e).elim, fun b ps e => let ⟨more, q⟩ := I.base.tbls b ps e; ⟨more, dropc_keep q fun l => ((hz b l).2 ps e).elim⟩⟩, I.loc, I.cell, dropc_none I.free, fun x c h => dropc_none (I.freeC x c h),
    fun p hp => let ⟨a, b, c⟩ := I.pin p hp; ⟨a, dropc_none b, c⟩, fun b u e => objDrop I.hok (I.hok b u (dropc_some e).1), I.len⟩
/-- .. of what is not ours: what stood at the start stands, so do lists, tuples, dicts -/
structure Fg (H1 H H' : Hp) : Prop where
  sub : ∀ b u, H' b = some u → H b = some u
  kp : ∀ b u, H b = some u → (H1 b ≠ none ∨ Strc u) → H' b = some u
  kw : ∀ b u, H b = some u → wk b u → H' b = some u
theorem ObjOk.noCellW {P : Program} {w : World} {H : Hp} {h : Heap} {b : Addr} {u : HO} (x : ObjOk P w H h b u) (k : wk b u) {o : Obj} (e : h.get? b = some o) : NoCell o := by
  intro v z
  rcases k with ⟨C, dx, fs, rfl⟩ | ⟨xs, rfl⟩
  · obtain ⟨_, _, _, q, _⟩ := x
    rw [e] at q
    cases q
    cases z
  · obtain ⟨⟨_, its, n, _, q⟩, _⟩ := x
    rw [e] at q
    cases q
    cases z
/-! ### the walk -/
structure Stand (X : Cx) (pins : List (Addr × Obj)) (φ : Fx) (n : Nat) (L : List PyData) (B : Around) (i : Nat) (g : Gh) (σ : L2.St) (H : Hp) (s : Shared) : Prop where
  inv : Inv X pins σ H s
  na : φ.na = φ
  base : X.base = φ.base
  go : s.heap.get? φ.go.1 = some φ.go.2
  god : ∃ nm qn, φ.go.2.cls = .type "generator" ∧ φ.go.2.data = .fields #[.int n 0, nm, qn] ∧ φ.go.2.slots = #[]
  gen : ∃ x, s.gens[n]? = some x ∧ ∀ s2, Slp φ g s s2 → Goes (model φ.P φ.w) B (pr φ) (L.drop i) g x s2
  con : Cons X pins φ g H s.heap
  num : φ.num = n
  sg : ∀ i ∈ g.gs, Gf.slp s.gens i
  nn : n ∉ g.gs
  gof : φ.go.1 ∈ g.fp
section
variable {X : Cx} {pins : List (Addr × Obj)} {φ : Fx} {n : Nat} {L : List PyData} {A B : Around} {i : Nat} {g : Gh} {σ : L2.St} {H : Hp} {s : Shared}
theorem Stand.isGen (S : Stand X pins φ n L B i g σ H s) : s.heap.IsGen φ.go.1 n := let ⟨nm, qn, a, b, c⟩ := S.god; ⟨φ.go.2, nm, qn, S.go, a, b, c⟩
theorem Stand.slp (S : Stand X pins φ n L B i g σ H s) : Slp φ g s (s.setGen n .running) := by
  refine ⟨rfl, allBare_setGen S.inv.bare rfl, fun _ _ _ e => e, fun b u e => ?_, fun b o e => S.inv.bk b o (by rw [S.base]; exact e), ?_, fun i hi => ?_, ?_⟩
  · have q := S.inv.hok b u (S.con.T b u e)
    rw [S.con.hP, S.con.hw] at q
    obtain ⟨xs, rfl⟩ := S.con.tt b u e
    exact tup_any q
  · have := S.inv.stack
    rw [S.con.st, S.base] at this
    exact this
  · show (s.gens.setIfInBounds n .running)[i]? = _
    rw [Array.getElem?_setIfInBounds_ne (show n ≠ i from fun z => S.nn (z ▸ hi))]
  · obtain ⟨x, hx, _⟩ := S.gen
    rw [S.num]
    exact setGen_at (Array.getElem?_eq_some_iff.mp hx).1
theorem Goes.notrun {M : Model} {B : Around} {Pr : Prot} {r : List PyData} {g : Gh} {x : GenState} {s : Shared} (h : Goes M B Pr r g x s) : x ≠ .running := fun z => by
  subst z
  exact h
theorem Stand.item (S : Stand X pins φ n L A.in1 i g σ H s) {d : PyData} (hd : L[i]? = some d) (hroom : A.depth < recursionLimit) {E : Value → Shared → Prop} :
    wpAny (model X.prog X.w) A (pyNext (.ref φ.go.1)) (fun r s1 => ∃ u x g', r = some u ∧ RelV x u ∧ Dv (fun _ => False) g'.T x d ∧ (∀ b v, g.T b = some v → g'.T b = some v) ∧ (∀ b v, g'.T b = some v → (∃ xs, v = .tup xs) ∧ (g.T b = some v ∨ H b = none)) ∧
      Stand X pins φ n L A.in1 (i + 1) g' σ (mrg H g'.T) s1 ∧ Gf.slp s1.gens n ∧ (∀ i, Gf.slp s.gens i → i ≠ n → i ∉ g.gs → s1.gens[i]? = s.gens[i]?) ∧ (∀ i : Nat, s.gens[i]? = some .running → s1.gens[i]? = some .running) ∧ ∀ i ∈ g'.gs, i ∈ g.gs ∨ ¬ Gf.slp s.gens i) E s := by
  obtain ⟨x, hx, go⟩ := S.gen
  have lt := (List.getElem?_eq_some_iff.mp hd).1
  have hL : L.drop i = d :: L.drop (i + 1) := by
    rw [List.drop_eq_getElem_cons lt, (List.getElem?_eq_some_iff.mp hd).2]
  have hg := go _ S.slp
  rw [hL] at hg
  have hn : n < s.gens.size := (Array.getElem?_eq_some_iff.mp hx).1
  rw [S.con.hP, S.con.hw]
  refine wpAny_gsz (n := n + 1) hn (next_item S.inv.nolimit hroom S.isGen hx hg fun v u y g' hb hs yp hk => ?_)
  intro hsz
  have yp : Yp φ.na g d (s.setGen n .running) v u g' := yp
  rw [S.na] at yp
  have I2 := back S.inv S.con (s0 := s.setGen n .running) rfl rfl yp.cm
  have C2 := S.con.next S.inv (s0 := s.setGen n .running) rfl yp
  obtain ⟨xv, rv, dv⟩ := yp.val
  have hn2 : n < u.gens.size := by
    have q : (u.setGen n y).gens.size = u.gens.size := setGen_size _ _ _
    omega
  have hat : (u.setGen n y).gens[n]? = some y := setGen_at hn2
  have nr : x ≠ .running := Goes.notrun hg
  have oth : ∀ i : Nat, i ≠ n → (u.setGen n y).gens[i]? = u.gens[i]? := fun i h => by
    show (u.gens.setIfInBounds n y)[i]? = _
    rw [Array.getElem?_setIfInBounds_ne (Ne.symm h)]
  have oth0 : ∀ i : Nat, i ≠ n → (s.setGen n .running).gens[i]? = s.gens[i]? := fun i h => by
    show (s.gens.setIfInBounds n .running)[i]? = _
    rw [Array.getElem?_setIfInBounds_ne (Ne.symm h)]
  have ur : u.gens[n]? = some .running := yp.cm.gr n (setGen_at hn)
  have gne : ∀ i ∈ g'.gs, i ≠ n := fun i hi z => by
    obtain ⟨k, l, c, p, fs, cl, e⟩ := (yp.gn i hi).1
    rw [z, ur] at e
    cases e
  have I3 : Inv X pins σ (mrg H g'.T) (u.setGen n y) := inv_rg I2 (allBare_setGen I2.bare hb)
  refine ⟨v, xv, g', rfl, rv, dv, yp.cm.up, fun b w e => ⟨yp.cm.tt b w e, S.con.same S.inv (s0 := s.setGen n .running) rfl yp.cm e⟩, ⟨I3, S.na, S.base, yp.cm.go, S.god, ⟨y, hat, fun s2 z => ?_⟩, C2, S.num, fun i hi => slp_eq (yp.gn i hi).1 (oth i (gne i hi)), fun h => gne n h rfl, yp.go⟩, ?_, fun i hi h1 h2 => ?_, fun i hi => ?_, fun i hi => ?_⟩
  · refine hk s2 ?_
    show Slp φ.na g' u s2
    rw [S.na]
    exact ⟨z.os, z.bare, z.keep, z.tup, z.bs, z.funs, fun i hi => (z.gs i hi).trans (oth i (gne i hi)), z.run⟩
  · obtain ⟨k, l, c, p, fs, cl, rfl⟩ := hs
    exact ⟨k, l, c, p, fs, cl, hat⟩
  · rw [oth i h1, yp.cm.gz i (slp_eq hi (oth0 i h1)) h2, oth0 i h1]
  · have h1 : i ≠ n := fun z => by
      rw [z, hx] at hi
      exact nr (Option.some.inj hi)
    rw [oth i h1]
    exact yp.cm.gr i (by rw [oth0 i h1]; exact hi)
  · refine (yp.gn i hi).2.imp id fun h z => h (slp_eq z (oth0 i (gne i hi)))
theorem Stand.done (S : Stand X pins φ n L A.in1 i g σ H s) (hd : L.length ≤ i) (hh : A.handled = none) (hroom : A.depth < recursionLimit) {E : Value → Shared → Prop} :
    wpAny (model X.prog X.w) A (pyNext (.ref φ.go.1)) (fun r s1 => r = none ∧ ∃ T, (∀ b v, g.T b = some v → T b = some v) ∧ (∀ b v, T b = some v → (∃ xs, v = .tup xs) ∧ (g.T b = some v ∨ H b = none)) ∧ Inv X pins σ (mrg H T) s1 ∧ (∀ i, Gf.slp s.gens i → i ≠ n → i ∉ g.gs → s1.gens[i]? = s.gens[i]?) ∧ ∀ i : Nat, s.gens[i]? = some .running → s1.gens[i]? = some .running) E s := by
  obtain ⟨x, hx, go⟩ := S.gen
  have hg := go _ S.slp
  rw [List.drop_eq_nil_of_le hd] at hg
  rw [S.con.hP, S.con.hw]
  refine next_end hh S.inv.nolimit hroom S.isGen hx hg fun r u hr => ?_
  obtain ⟨h1, T, m⟩ := hr
  have m : Cm φ.na g (s.setGen n .running) u T := m
  rw [S.na] at m
  refine ⟨h1, fun h' kp => ⟨rfl, T, m.up, fun b w e => ⟨m.tt b w e, S.con.same S.inv (s0 := s.setGen n .running) rfl m e⟩, ?_⟩⟩
  have I2 := back S.inv S.con (s0 := s.setGen n .running) rfl rfl m
  have I3 : Inv X pins σ (mrg H T) (u.setGen n .finished) := inv_rg I2 (allBare_setGen I2.bare rfl)
  have nr : x ≠ .running := Goes.notrun hg
  have hn : n < s.gens.size := (Array.getElem?_eq_some_iff.mp hx).1
  have oth : ∀ i : Nat, i ≠ n → (u.setGen n .finished).gens[i]? = u.gens[i]? := fun i h => by
    show (u.gens.setIfInBounds n .finished)[i]? = _
    rw [Array.getElem?_setIfInBounds_ne (Ne.symm h)]
  have oth0 : ∀ i : Nat, i ≠ n → (s.setGen n .running).gens[i]? = s.gens[i]? := fun i h => by
    show (s.gens.setIfInBounds n .running)[i]? = _
    rw [Array.getElem?_setIfInBounds_ne (Ne.symm h)]
  refine ⟨I3.call' (ch := []) rfl (Un.kept kp) (I3.hok.kept kp) I3.bare fun b z => (List.not_mem_nil z).elim, fun i hi h1 h2 => ?_, fun i hi => ?_⟩
  · show (u.setGen n .finished).gens[i]? = _
    rw [oth i h1, m.gz i (slp_eq hi (oth0 i h1)) h2, oth0 i h1]
  · have h1 : i ≠ n := fun z => by
      rw [z, hx] at hi
      exact nr (Option.some.inj hi)
    show (u.setGen n .finished).gens[i]? = _
    rw [oth i h1]
    exact m.gr i (by rw [oth0 i h1]; exact hi)
/-- the generator's own, as it stands, is not the consumer's -/
theorem Stand.pinned (S : Stand X pins φ n L B i g σ H s) : Inv X (pins ++ pinsAt g.fp s.heap) σ H s := S.inv.pinned S.con.fp S.con.obj
/-- behind a turn of the consumer's -/
theorem Stand.kept1 (S : Stand X pins φ n L B i g σ H s) {σ' : L2.St} {H' : Hp} {s' : Shared} (I : Inv X (pins ++ pinsAt g.fp s.heap) σ' H' s') (hg : s'.gens[n]? = s.gens[n]?) (hgs : ∀ i ∈ g.gs, s'.gens[i]? = s.gens[i]?) (hT : ∀ b u, g.T b = some u → H' b = some u)
    (hk : ∀ b, φ.a0 ≤ b → b < X.s_0.heap.objs.size → b ∉ X.ex → H' b ≠ none) (nc : ∀ b u o, H' b = some u → φ.a0 ≤ b → s'.heap.get? b = some o → NoCell o) : Stand X pins φ n L B i g σ' H' s' := by
  have pk : ∀ b ∈ g.fp, ∀ o, s.heap.get? b = some o → s'.heap.get? b = some o ∧ H' b = none := fun b hb o e =>
    let z := I.pin (b, o) (List.mem_append_right _ (List.mem_append_right _ (mem_pinsAt hb e))); ⟨z.1, z.2.1⟩
  have hn : ∀ b ∈ g.fp, H' b = none := fun b hb => by
    obtain ⟨o, e, _⟩ := S.con.obj b hb
    exact (pk b hb o e).2
  have os : s'.os = s.os := I.os.trans S.inv.os.symm
  refine ⟨I.unpinned, S.na, S.base, (pk _ S.gof _ S.go).1, S.god, ?_, ⟨S.con.st, S.con.hP, S.con.hw, hT, fun b hb => ⟨hn b hb, (S.con.fp b hb).2⟩, S.con.ge, fun b hb => ?_, S.con.cl, nc, hk, S.con.fr, S.con.tt⟩, S.num, fun i hi => slp_eq (S.sg i hi) (hgs i hi), S.nn, S.gof⟩
  · obtain ⟨x, hx, go⟩ := S.gen
    refine ⟨x, by rw [hg]; exact hx, fun s2 z => go s2 ?_⟩
    exact ⟨z.os.trans os, z.bare, fun b hb o e => z.keep b hb o (pk b hb o e).1, z.tup, z.bs, z.funs, fun i hi => (z.gs i hi).trans (hgs i hi), z.run⟩
  · obtain ⟨o, e, k⟩ := S.con.obj b hb
    exact ⟨o, (pk b hb o e).1, k⟩
theorem Stand.kept (S : Stand X pins φ n L B i g σ H s) {σ' : L2.St} {H' : Hp} {s' : Shared} (I : Inv X (pins ++ pinsAt g.fp s.heap) σ' H' s') (hg : s'.gens[n]? = s.gens[n]?) (hgs : ∀ i ∈ g.gs, s'.gens[i]? = s.gens[i]?) (hT : ∀ b u, g.T b = some u → H' b = some u)
    (hk : ∀ b, φ.a0 ≤ b → b < X.s_0.heap.objs.size → b ∉ X.ex → ∃ u, H' b = some u ∧ Strc u) (hz : ∀ b, φ.a0 ≤ b → (∀ o u, X.H_0 b ≠ some (.frz o u)) ∧ ∀ ps, X.H_0 b ≠ some (.tbl ps)) : Stand X pins φ n L B i g σ' (dropc φ.a0 s'.heap H') s' := by
  refine S.kept1 (Inv.drop I hz) hg hgs (fun b u e => ?_) (fun b h1 h2 h3 z => ?_) fun b u o e l ho => (dropc_some e).2 l o ho
  · have q := hT b u e
    obtain ⟨xs, rfl⟩ := S.con.tt b u e
    exact dropc_keep q fun _ o ho => ObjOk.noCell (I.hok b _ q) trivial ho
  · obtain ⟨u, e, st⟩ := hk b h1 h2 h3
    rw [dropc_keep e fun _ o ho => ObjOk.noCell (I.hok b _ e) st ho] at z
    cases z
theorem fg_drop {H1 H' : Hp} {s' : Shared} {a0 : Addr} (hok : HOk X.prog X.w H' s'.heap) (old : ∀ b, H1 b ≠ none → b < a0) : Fg H1 H' (dropc a0 s'.heap H') :=
  ⟨fun b u e => (dropc_some e).1, fun b u e h => dropc_keep e fun l o ho => by
    rcases h with h | h
    · exact absurd (Nat.lt_of_lt_of_le (old b h) l) (Nat.lt_irrefl _)
    · exact ObjOk.noCell (hok b u e) h ho, fun b u e h => dropc_keep e fun l o ho => ObjOk.noCellW (hok b u e) h ho⟩
end
/-! ### the call -/
abbrev TYen := L2.St → Hp → (Hp → List PyData → Hp → Prop) → Prop
structure PYen (X : Cx) (k : Nat) (e : Expr) (ty : TYen) : Prop where
  run : ∀ (pins : List (Addr × Obj)) (s : Shared) (σ : L2.St) (H : Hp) (cont : Hp → List PyData → Hp → Prop), Inv X pins σ H s → ty σ H cont →
    wpAny (model X.prog X.w) X.A (eval e X.env) (fun u s' => ∃ H1 sc T L, Inv X pins σ H1 sc ∧ Made X.prog X.w X.base k X.stack T L sc u s' ∧ (∀ b v, T b = some v → H1 b = some v ∧ ∃ xs, v = .tup xs) ∧ cont T L H1) X.xe s
def tCallY (sp : SpY) (ta : TA) : TYen := fun σ H cont => ta σ H fun vs H1 => ∃ T L, (∀ b v, T b = some v → H1 b = some v ∧ ∃ xs, v = .tup xs) ∧ sp vs T L ∧ cont T L H1
theorem pyn_call {X : Cx} {k : Nat} {f : Addr} {fd : FuncData} {ps : List Str} {sp : SpY} {x : Str} {p pos : Pos} {e : Expr} {es : List Expr} {ta : TA} (F : GFnY X.prog X.w X.K X.mg X.base k f fd ps sp) (hr : Room k X.A) (hg : Gl X x) (hm : X.mg x = some (.ref f)) (hk : PySem.W.keepIn X.K (.ref f) = true) (hb : Binds X.K fd ps [])
    (ha : PA X (e :: es) ta) (hdb : (x == ("__debug__" : Str)) = false := by decide) (he : starEach (e :: es) X.env = (false, eval e X.env) :: starEach es X.env := by rfl) (hpl : (backTo pos (starEach es X.env)).any (·.1) = false := by rfl) : PYen X k (.Call (.Name x p) (e :: es) [] pos) (tCallY sp ta) := by
  refine ⟨fun pins s σ H cont I h => ?_⟩
  refine wpAny_Call_Name_kw (ld_glob I hg hm ?_ hdb)
  refine PySem.W.callWith_K (h₀ := X.base) I.ok.mod.kin hk (thn (ha.run pos pins s σ H _ I h) fun us s1 ⟨vs, H1, I1, r, T, L, hT, q, c⟩ => ⟨I1.kIn, ?_⟩) he hpl
  have hl2 : us.length = ps.length := by rw [← r.length]; exact F.len _ _ _ q
  have bd := hb s1 us I1.kIn (by rw [List.append_nil]; exact hl2)
  rw [List.append_nil] at bd
  refine wpAny_call (codeAny_mono (F.run X.A X.stack s1 H1 T ⟨us, []⟩ us vs L hr I1.env0 hT bd r q) fun r s' hq => ?_)
  cases r with
  | error e => exact hq.elim
  | ok fl =>
    cases fl with
    | ret u => exact ⟨H1, s1, T, L, I1, hq, hT, c⟩
    | next => exact hq.elim
    | brk => exact hq.elim
    | cont => exact hq.elim
theorem Room.in1' {k : Nat} {A : Around} (r : Room (k + 1) A) : Room k A.in1 := ⟨r.hd, by have := r.dp; show A.depth + 3 * k + 5 < _; omega, by have := r.un; show A.units + 1 + 16 * k + 200 < _; omega⟩
/-- at the start of a walk -/
theorem Made.stand {X : Cx} {k : Nat} {T : Hp} {L : List PyData} {sc s1 : Shared} {u : Value} {pins : List (Addr × Obj)} {σ : L2.St} {H : Hp} (h : Made X.prog X.w X.base k X.stack T L sc u s1) (I : Inv X pins σ H sc) (hT : ∀ b v, T b = some v → H b = some v ∧ ∃ xs, v = .tup xs) {B : Around} (hr : Room k B) (hBf : B.frames = some X.stack) :
    ∃ φ n, u = .ref φ.go.1 ∧ φ.a0 = sc.heap.objs.size ∧ Stand X pins φ n L B 0 ⟨T, [φ.a0, φ.go.1], []⟩ σ H s1 ∧ (∀ b, H b ≠ none → b < φ.a0) ∧ X.s_0.heap.objs.size ≤ φ.a0 ∧ (∀ b, φ.a0 ≤ b → (∀ o u, X.H_0 b ≠ some (.frz o u)) ∧ ∀ ps, X.H_0 b ≠ some (.tbl ps)) ∧ ∃ c, s1.gens[n]? = some (.fresh c) := by
  obtain ⟨φ, n, c, na, enum, rfl, ⟨eP, ew, eb, eo, ea⟩, lt, frl, ⟨o, nm, qn, ho, h1, h2, h3⟩, hx, os, bare, kp, ha0, hgo, ngo, wk⟩ := h
  rw [hgo] at ho
  cases ho
  have I1 : Inv X pins σ H s1 := I.call' (ch := []) os (Un.kept kp) (I.hok.kept kp) bare fun b z => (List.not_mem_nil z).elim
  have old : ∀ b, H b ≠ none → b < φ.a0 := fun b q => by
    cases e : H b with
    | none => exact (q e).elim
    | some v => rw [ea]; exact I.hok.lt e
  have two : ∀ b ∈ [φ.a0, φ.go.1], b = φ.a0 ∨ b = φ.go.1 := fun b hb => by
    rcases List.mem_cons.mp hb with e | hb
    · exact .inl e
    · exact .inr (List.mem_singleton.mp hb)
  have ge : ∀ b ∈ [φ.a0, φ.go.1], φ.a0 ≤ b := fun b hb => by
    rcases two b hb with e | e <;> subst e
    · exact Nat.le_refl _
    · exact Nat.le_of_lt lt
  refine ⟨φ, n, rfl, ea, ⟨I1, na, eb.symm, hgo, ⟨nm, qn, h1, h2, h3⟩, ⟨_, hx, fun s2 z => ?_⟩, ⟨eo.symm, eP.symm, ew.symm, fun b v e => (hT b v e).1, fun b hb => ?_, ge, fun b hb => ?_, fun x c e => ?_, fun b v o e l _ => ?_, fun b l1 l2 _ _ => ?_, fun b hb => frl b (by rw [← eo]; exact hb), fun b v e => (hT b v e).2⟩, enum, fun i hi => (List.not_mem_nil hi).elim, fun hi => List.not_mem_nil hi, List.mem_cons_of_mem _ List.mem_cons_self⟩, old, by rw [ea]; exact I.sz, fun b l => ⟨fun o u e => ?_, fun ps e => ?_⟩, c, hx⟩
  · have := wk B hr hBf s2 z
    rw [eP, ew]
    exact this
  · refine I.fpOk (by rw [← ea]; exact ge b hb) ?_
    cases e : H b with
    | none => rfl
    | some v => exact absurd (Nat.lt_of_lt_of_le (old b (by rw [e]; exact fun z => by cases z)) (ge b hb)) (Nat.lt_irrefl _)
  · rcases two b hb with e | e <;> subst e
    · exact ha0
    · exact ⟨_, hgo, ngo⟩
  · obtain ⟨v, q⟩ := I.cell x c e
    rw [ea]
    exact q.lt
  · exact absurd (Nat.lt_of_lt_of_le (old b (by rw [e]; exact fun z => by cases z)) l) (Nat.lt_irrefl _)
  · have := I.sz
    rw [← ea] at this
    exact absurd (Nat.lt_of_lt_of_le l2 (Nat.le_trans this l1)) (Nat.lt_irrefl _)
  · have := I.base.frzs b o u e
    exact absurd (Nat.lt_of_lt_of_le (old b (by rw [this]; exact fun z => by cases z)) l) (Nat.lt_irrefl _)
  · obtain ⟨more, this⟩ := I.base.tbls b ps e
    exact absurd (Nat.lt_of_lt_of_le (old b (by rw [this]; exact fun z => by cases z)) l) (Nat.lt_irrefl _)
end Gf
/-! for over a generator's call. -/
namespace Gf
open PySem PySem.Spec PyProof.Rows L2 GenW Gd
section
variable {X : Cx} {pins : List (Addr × Obj)} {σ : L2.St} {H : Hp} {s : Shared}
theorem inv_awake {s' : Shared} {D : Array GenState} (I : Inv X.nox pins σ H (rg s' D)) (hb : AllBare D → AllBare s'.gens) : Inv X pins σ H s' := (inv_rg I (hb I.bare)).unwish
theorem inv_dead (I : Inv X pins σ H s) : Inv X.nox pins σ H (rg s (s.gens.map dead)) := inv_rg (I.wish _) (bare_dead I.bare)
theorem pg_asleep {tg : Expr} {g : TG} (hg : PG X.nox tg g) (I : Inv X pins σ H s) {x : V} {u : Value} (rv : RelV x u) {Q : L2.St → Hp → Prop} (q : g x σ H Q) :
    wpAny (model X.prog X.w) X.A (assign tg X.env u) (fun _ s' => ∃ σ' H', Inv X pins σ' H' s' ∧ Q σ' H' ∧ Kg (Gf.slp s.gens) s.gens s'.gens) (fun _ _ => False) s :=
  wpAny_mono (asleep I.bare (hg.run pins _ σ H x u Q (inv_dead I) rv q)) (fun _ s' ⟨D, ⟨σ', H', I', q'⟩, hb, k⟩ => ⟨σ', H', inv_awake I' hb, q', k⟩) fun _ _ ⟨_, z, _⟩ => z.elim
theorem pt_asleep {ifs : List Expr} {t : TT} (hg : PTs X.nox ifs t) (I : Inv X pins σ H s) {Q : Bool → Hp → Prop} (q : t σ H Q) :
    wpAny (model X.prog X.w) X.A (forIn ifs true fun c r => if r = true then do let ok ← isTrue c X.env (eval c X.env); pure (ForInStep.yield ok) else pure (ForInStep.yield r)) (fun b s' => ∃ H', Inv X pins σ H' s' ∧ Q b H' ∧ Kg (Gf.slp s.gens) s.gens s'.gens) (fun _ _ => False) s :=
  wpAny_mono (asleep I.bare (hg.run pins _ σ H Q (inv_dead I) q)) (fun b s' ⟨D, ⟨H', I', q'⟩, hb, k⟩ => ⟨H', inv_awake I' hb, q', k⟩) fun _ _ ⟨_, z, _⟩ => z.elim
theorem pe_asleep {e : Expr} {t : TE} (he : PE X.nox e t) (I : Inv X pins σ H s) {Q : VK} (q : t σ H Q) :
    wpAny (model X.prog X.w) X.A (eval e X.env) (fun u s' => ∃ v H', Inv X pins σ H' s' ∧ RelV v u ∧ Q v H' ∧ Kg (Gf.slp s.gens) s.gens s'.gens) (fun _ _ => False) s :=
  wpAny_mono (asleep I.bare (he.run pins _ σ H Q (inv_dead I) q)) (fun u s' ⟨D, ⟨v, H', I', rv, q'⟩, hb, k⟩ => ⟨v, H', inv_awake I' hb, rv, q', k⟩) fun _ _ ⟨_, z, _⟩ => z.elim
theorem sp_awake {D : Ends} {f : Flow} {s' : Shared} {G : Array GenState} (hb : AllBare G → AllBare s'.gens) (h : SP X.nox pins D f (rg s' G)) : SP X pins D f s' := by
  cases f with
  | next => obtain ⟨σ, H, I, q⟩ := h; exact ⟨σ, H, inv_awake I hb, q⟩
  | brk => obtain ⟨σ, H, I, q⟩ := h; exact ⟨σ, H, inv_awake I hb, q⟩
  | cont => obtain ⟨σ, H, I, q⟩ := h; exact ⟨σ, H, inv_awake I hb, q⟩
  | ret u => obtain ⟨v, σ, H, I, r, q⟩ := h; exact ⟨v, σ, H, inv_awake I hb, r, q⟩
theorem ss_asleep {body : List Stmt} {tb : TS} (hb : PSs X.nox body tb) (I : Inv X pins σ H s) {D : Ends} (q : tb D σ H) :
    wpAny (model X.prog X.w) X.A (execs body X.env) (fun f s' => SP X pins D f s' ∧ Kg (Gf.slp s.gens) s.gens s'.gens) (fun _ _ => False) s :=
  wpAny_mono (asleep I.bare (hb.run pins _ σ H D (inv_dead I) q)) (fun f s' ⟨G, h, hb, k⟩ => ⟨sp_awake hb h, k⟩) fun _ _ ⟨_, z, _⟩ => z.elim
end
/-- the tuples that a turn has brought -/
def Nw (T T' H : Hp) : Prop := (∀ b v, T b = some v → T' b = some v) ∧ ∀ b v, T' b = some v → (∃ xs, v = .tup xs) ∧ (T b = some v ∨ H b = none)
def tForY (ty : TYen) (g : TG) (tb : TS) : TS := fun D σ H => ty σ H fun T L H1 => ∃ Pv : Nat → Hp → L2.St → Hp → Prop, Pv 0 T σ H1 ∧ (∀ i T σ H, Pv i T σ H → ∀ b u, T b = some u → H b = some u) ∧
  (∀ (i : Nat) (d : PyData) (T : Hp) (σ : L2.St) (H T' : Hp) (x : V), L[i]? = some d → Pv i T σ H → Nw T T' H → Dv (fun _ => False) T' x d →
    g x σ (mrg H T') fun σ2 H2 => tb { D with nx := fun σ' H' => ∀ H'', Fg H1 H' H'' → Pv (i + 1) T' σ' H'', ct := fun σ' H' => ∀ H'', Fg H1 H' H'' → Pv (i + 1) T' σ' H'', bk := D.nx } σ2 H2) ∧
  ∀ (T : Hp) (σ : L2.St) (H T' : Hp), Pv L.length T σ H → Nw T T' H → D.nx σ (mrg H T')
theorem ps_forY {X : Cx} {k : Nat} {tg iter : Expr} {body : List Stmt} {ty : TYen} {g : TG} {tb : TS} {pos : Pos} (hi : PYen X k iter ty) (hr : Room (k + 1) X.A) (hg : PG X.nox tg g) (hb : PSs X.nox body tb) (hs : ∀ x, foldedSetIterable iter X.env x = pure x := by intro _; rfl) : PS X (.For tg iter body [] pos) (tForY ty g tb) := by
  refine ⟨fun pins s σ H D I h => ?_⟩
  refine wpAny_For (thn (hi.run pins s σ H _ I h) fun v s1 ⟨H1, sc, T, L, I1, made, hT, Pv, h0, hk, step, fin⟩ => ?_) hs
  obtain ⟨φ, n, rfl, ea, S, old, hsz, hz, _⟩ := made.stand I1 hT (B := X.A.in1) (Room.in1' hr) (show X.A.frames = _ from I1.ok.frames)
  have hroom : X.A.depth < recursionLimit := by have := hr.dp; omega
  refine wpAny_pyIter_gen S.isGen ?_
  refine codeAny_forLoop_any (fun m s' => ∃ i g σ' H', m = L.length - i ∧ i ≤ L.length ∧ Stand X pins φ n L X.A.in1 i g σ' H' s' ∧ Pv i g.T σ' H') ?_ L.length ⟨0, _, σ, H1, by simp, Nat.zero_le _, S, h0⟩
  rintro m s3 ⟨i, gh, σ3, H3, rfl, hle, S3, p3⟩
  by_cases hl : i < L.length
  · refine wpAny_mono (S3.item (List.getElem?_eq_getElem hl) hroom (E := fun _ _ => False)) (fun r s4 h4 => ?_) fun _ _ z => z.elim
    obtain ⟨u, x, g', rfl, rv, dv, up, nw, S4, sl, _⟩ := h4
    obtain ⟨nm, qn, gc, gd, _⟩ := S4.god
    refine go_of S4.go gc gd (by decide +kernel) ?_
    refine wpAny_mono (pg_asleep hg S4.pinned rv (step i L[i] gh.T σ3 H3 g'.T x (List.getElem?_eq_getElem hl) p3 ⟨up, nw⟩ dv)) (fun _ s6 ⟨σ6, H6, I6, q6, k6⟩ => ?_) fun _ _ z => z.elim
    have sl6 : Gf.slp s6.gens n := by
      obtain ⟨k, l, c, p, fs, cl, e⟩ := sl
      exact ⟨k, l, c, p, fs, cl, by rw [k6.1 n ⟨k, l, c, p, fs, cl, e⟩]; exact e⟩
    refine wpAny_mono (ss_asleep hb I6 q6) (fun f s7 ⟨q7, k7⟩ => ?_) fun _ _ z => z.elim
    have gk : s7.gens[n]? = s4.gens[n]? := (k7.1 n sl6).trans (k6.1 n sl)
    have gks : ∀ i ∈ g'.gs, s7.gens[i]? = s4.gens[i]? := fun i hi => (k7.1 i (slp_eq (S4.sg i hi) (k6.1 i (S4.sg i hi)))).trans (k6.1 i (S4.sg i hi))
    have again : ∀ {σ7 : L2.St} {H7 : Hp}, Inv X (pins ++ pinsAt g'.fp s4.heap) σ7 H7 s7 → (∀ H'', Fg H1 H7 H'' → Pv (i + 1) g'.T σ7 H'') → ∃ m, m < L.length - i ∧ ∃ i g σ' H', m = L.length - i ∧ i ≤ L.length ∧ Stand X pins φ n L X.A.in1 i g σ' H' s7 ∧ Pv i g.T σ' H' := fun {σ7 H7} I7 n7 => by
      have p7 := n7 _ (fg_drop (X := X) I7.hok old)
      refine ⟨L.length - (i + 1), by omega, i + 1, g', σ7, _, rfl, hl, S4.kept I7 gk gks (fun b v e => (dropc_some (hk _ _ _ _ p7 b v e)).1) (fun b l1 l2 _ => absurd (Nat.lt_of_lt_of_le l2 (Nat.le_trans hsz l1)) (Nat.lt_irrefl _)) hz, p7⟩
    cases f with
    | next => obtain ⟨σ7, H7, I7, n7⟩ := q7; exact again I7 n7
    | cont => obtain ⟨σ7, H7, I7, n7⟩ := q7; exact again I7 n7
    | brk => obtain ⟨σ7, H7, I7, n7⟩ := q7; exact ⟨σ7, H7, I7.unpinned, n7⟩
    | ret v => obtain ⟨x7, σ7, H7, I7, r7, n7⟩ := q7; exact ⟨x7, σ7, H7, I7.unpinned, r7, n7⟩
  · have e : i = L.length := by omega
    subst e
    refine wpAny_mono (S3.done (Nat.le_refl _) hr.hd hroom (E := fun _ _ => False)) (fun r s4 ⟨h4, T', up, nw, I4, _⟩ => ?_) fun _ _ z => z.elim
    subst h4
    exact wpAny_execs_nil ⟨σ3, _, I4, fin _ _ _ _ p3 ⟨up, nw⟩⟩
end Gf
/-! Generators in loops, over data. -/
namespace Dl
open PySem PySem.Spec PyProof.Rows L2 Gd GenW Gf
mutual
/-- data without lists and dicts -/
def fltD : PyData → Bool
  | .none => true
  | .bool _ => true
  | .int _ => true
  | .str _ => true
  | .list _ => false
  | .dict _ => false
  | .tuple ds => fltA ds
def fltA : List PyData → Bool
  | [] => true
  | d :: ds => fltD d && fltA ds
end
theorem fltA_ix : ∀ {ds : List PyData} {i : Nat} {d : PyData}, fltA ds = true → ds[i]? = some d → fltD d = true
  | x :: ds, 0, d, h, e => by
    rw [fltA, Bool.and_eq_true] at h
    cases e
    exact h.1
  | x :: ds, i + 1, d, h, e => by
    rw [fltA, Bool.and_eq_true] at h
    exact fltA_ix h.2 (by simpa using e)
theorem flt_tup {ds : List PyData} (h : ∀ d ∈ ds, fltD d = true) : fltD (.tuple ds) = true := by
  rw [fltD]
  induction ds with
  | nil => rw [fltA]
  | cons d ds ih => rw [fltA, h d List.mem_cons_self, ih fun x hx => h x (List.mem_cons_of_mem _ hx)]; rfl
theorem flt_tupI {ns : List Int} : fltD (tupI ns) = true := flt_tup fun d hd => by
  obtain ⟨x, _, rfl⟩ := List.mem_map.mp hd
  show fltD (.int x) = true
  rw [fltD]
theorem dv_flt {O : Addr → Prop} {H T : Hp} {v : V} {d : PyData} (h : Dv O H v d) (k : ∀ a xs, H a = some (.tup xs) → ¬ O a → T a = some (.tup xs)) : fltD d = true → Dv (fun _ => False) T v d := by
  induction h with
  | non => exact fun _ => .non
  | bl b => exact fun _ => .bl b
  | int i => exact fun _ => .int i
  | str x => exact fun _ => .str x
  | lst e n l _ ih => exact fun z => by rw [fltD] at z; cases z
  | dct e n p => exact fun z => by rw [fltD] at z; cases z
  | dcv e n l _ ih => exact fun z => by rw [fltD] at z; cases z
  | tup e n l _ ih =>
    intro z
    rw [fltD] at z
    exact .tup (k _ _ e n) (fun q => q) l fun i x d h1 h2 => ih i x d h1 h2 (fltA_ix z h2)
theorem dv_up {O : Addr → Prop} {H T : Hp} {v : V} {d : PyData} (h : Dv (fun _ => False) T v d) (k : ∀ b u, T b = some u → H b = some u ∧ ¬ O b) : Dv O H v d := by
  induction h with
  | non => exact .non
  | bl b => exact .bl b
  | int i => exact .int i
  | str x => exact .str x
  | lst e n l _ ih => exact .lst (k _ _ e).1 (k _ _ e).2 l ih
  | dct e n p => exact .dct (k _ _ e).1 (k _ _ e).2 p
  | dcv e n l _ ih => exact .dcv (k _ _ e).1 (k _ _ e).2 l ih
  | tup e n l _ ih => exact .tup (k _ _ e).1 (k _ _ e).2 l ih
/-- data under fewer objects: lists, tuples, dicts stand -/
theorem dv_strc {O O' : Addr → Prop} {H H' : Hp} {v : V} {d : PyData} (h : Dv O H v d) (k : ∀ b u, H b = some u → Strc u → ¬ O b → H' b = some u ∧ ¬ O' b) : Dv O' H' v d := by
  induction h with
  | non => exact .non
  | bl b => exact .bl b
  | int i => exact .int i
  | str x => exact .str x
  | lst e n l _ ih => exact .lst (k _ _ e trivial n).1 (k _ _ e trivial n).2 l ih
  | dct e n p => exact .dct (k _ _ e trivial n).1 (k _ _ e trivial n).2 p
  | dcv e n l _ ih => exact .dcv (k _ _ e trivial n).1 (k _ _ e trivial n).2 l ih
  | tup e n l _ ih => exact .tup (k _ _ e trivial n).1 (k _ _ e trivial n).2 l ih
def F0 : Fr := ⟨fun _ => False, fun _ _ => True, .non, fun _ _ _ _ _ => trivial, fun _ _ _ => ⟨fun _ h => h.elim, fun _ h => h.elim⟩⟩
def G0 (T : Hp) : Gx := ⟨F0, fun _ => False, T, fun _ h => h.elim, ⟨fun _ h => h.elim, fun _ h => h.elim⟩⟩
theorem oc_strc {O : Addr → Prop} {H : Hp} {o : HO} {c : Oc} (h : OcR O H o c) : Strc o := by
  cases o <;> cases c <;> first | exact h.elim | trivial
theorem Rel.strc {T : Hp} {O : Addr → Prop} {σ : L2.St} {H : Hp} {E : En} (hT : ∀ b u, T b = some u → ∃ xs, u = .tup xs) (r : Rel (G0 T) O σ H E) : Rel (G0 T) (fun x => O x ∧ strcOf H x ≠ none) σ (strcOf H) E := by
  have kd : ∀ {v : V} {d : PyData}, Dv O H v d → Dv (fun x => O x ∧ strcOf H x ≠ none) (strcOf H) v d := fun h => dv_strc h fun b u e s n => ⟨strcOf_eq e s, fun z => n z.1⟩
  refine ⟨r.len, fun i d e => ?_, fun i ds e => ?_, r.dif, r.con, trivial, fun _ h => h.elim, fun x h => r.on x h.1, ⟨fun x h => h.2, fun x h o e => r.aB.t x h.1 o (strcOf_of e).1⟩, fun b u e _ => ?_, r.od.mvG (fun _ _ z => kd z) fun _ _ b o _ _ e ob sb _ oc => by
    have q := strcOf_eq e (oc_strc oc)
    exact ⟨q, ⟨ob, by rw [q]; exact fun z => by cases z⟩, sb⟩⟩
  · obtain ⟨v, h1, h2⟩ := r.dat i d e
    exact ⟨v, h1, kd h2⟩
  · obtain ⟨a, vs, h1, h2, h3, h4, h5⟩ := r.own i ds e
    have q := strcOf_eq h2 trivial
    exact ⟨a, vs, h1, q, ⟨h3, by rw [q]; exact fun z => by cases z⟩, h4, h5.mp fun _ _ z => kd z⟩
  · obtain ⟨xs, rfl⟩ := hT b u e
    exact strcOf_eq (show H b = some (.tup xs) from r.kp b _ e fun z => z) trivial
theorem Rel.drop' {G : Gx} {O : Addr → Prop} {σ : L2.St} {H1 H H' : Hp} {E : En} (r : Rel G O σ H E) (f : Fg H1 H H') (o : ∀ x, G.Hs x ≠ none → H1 x ≠ none) : Rel G (fun x => O x ∧ H' x ≠ none) σ H' E := by
  have kd : ∀ {v : V} {d : PyData}, Dv O H v d → Dv (fun x => O x ∧ H' x ≠ none) H' v d := fun h => dv_strc h fun b u e s n => ⟨f.kp b u e (.inr s), fun z => n z.1⟩
  refine ⟨r.len, fun i d e => ?_, fun i ds e => ?_, r.dif, r.con, G.F.keep _ _ _ r.str fun x u hx e => hx.elim (fun s => f.kp x u e (.inl (o x (G.hb x (G.sb x s))))) fun k => k.elim (fun k => f.kw x u e k) fun ⟨xs, k⟩ => by subst k; exact f.kp x _ e (.inr trivial), fun x h => ⟨r.bo x h, fun z => ?_⟩, fun x h => r.on x h.1, ⟨fun x h => h.2, fun x h o e => r.aB.t x h.1 o (f.sub x _ e)⟩, fun b u e n => Stay.trans (r.kp b u e n) fun u' e' => Stay.of (f.kp b u' e' (.inl (o b (by rw [e]; exact fun z => by cases z)))), r.od.mvG (fun _ _ z => kd z) fun _ _ b o _ _ e ob sb _ oc => by
    have q := f.kp b _ e (.inr (oc_strc oc))
    exact ⟨q, ⟨ob, by rw [q]; exact fun z => by cases z⟩, sb⟩⟩
  · obtain ⟨v, h1, h2⟩ := r.dat i d e
    exact ⟨v, h1, kd h2⟩
  · obtain ⟨a, vs, h1, h2, h3, h4, h5⟩ := r.own i ds e
    have q := f.kp a _ h2 (.inr trivial)
    exact ⟨a, vs, h1, q, ⟨h3, by rw [q]; exact fun z => by cases z⟩, h4, h5.mp fun _ _ z => kd z⟩
  · cases q : H x with
    | none => exact r.al x (r.bo x h) q
    | some u =>
      rw [f.kp x u q (.inl (o x (G.hb x h)))] at z
      cases z
/-! ### the statements of such a generator -/
structure YDE where
  nx : List PyData → En → Prop
  bk : List PyData → En → Prop := fun _ _ => False
  ct : List PyData → En → Prop := fun _ _ => False
abbrev TYd := YDE → List PyData → En → Prop
/-- the tuples stand -/
def LaT (O : Addr → Prop) (H : Hp) (O' : Addr → Prop) (H' : Hp) : Prop := ∀ x xs, H x = some (.tup xs) → ¬ O x → H' x = some (.tup xs) ∧ ¬ O' x
theorem LaT.refl {O : Addr → Prop} {H : Hp} : LaT O H O H := fun _ _ e n => ⟨e, n⟩
theorem LaT.trans {O O1 O2 : Addr → Prop} {H H1 H2 : Hp} (a : LaT O H O1 H1) (b : LaT O1 H1 O2 H2) : LaT O H O2 H2 := fun x xs e n => let ⟨e1, n1⟩ := a x xs e n; b x xs e1 n1
theorem LaT.of {O O' : Addr → Prop} {H H' : Hp} (l : Later O H O' H') : LaT O H O' H' := fun x xs e n => ⟨l.h x _ e n, fun z => by
  rcases l.o x z with q | q
  · exact n q
  · rw [e] at q
    cases q⟩
theorem LaT.strc {O : Addr → Prop} {H : Hp} : LaT O H (fun x => O x ∧ strcOf H x ≠ none) (strcOf H) := fun x xs e n => ⟨strcOf_eq e trivial, fun z => n z.1⟩
structure LkY (G : Gx) (O : Addr → Prop) (H : Hp) (D : GEn) (Dd : YDE) : Prop where
  nx : ∀ O' σ H' E r, LaT O H O' H' → Rel G O' σ H' E → Dd.nx r E → D.nx r σ H'
  bk : ∀ O' σ H' E r, LaT O H O' H' → Rel G O' σ H' E → Dd.bk r E → D.bk r σ H'
  ct : ∀ O' σ H' E r, LaT O H O' H' → Rel G O' σ H' E → Dd.ct r E → D.ct r σ H'
theorem LkY.later {G : Gx} {O O1 : Addr → Prop} {H H1 : Hp} {D : GEn} {Dd : YDE} (k : LkY G O H D Dd) (l : LaT O H O1 H1) : LkY G O1 H1 D Dd :=
  ⟨fun O' σ H' E r q => k.nx O' σ H' E r (l.trans q), fun O' σ H' E r q => k.bk O' σ H' E r (l.trans q), fun O' σ H' E r q => k.ct O' σ H' E r (l.trans q)⟩
def lowY (G : Gx) (t : TYd) : TGy := fun D r σ H => ∃ (O : Addr → Prop) (E : En) (Dd : YDE), Rel G O σ H E ∧ LkY G O H D Dd ∧ t Dd r E
abbrev PGY (φ : Fx) (G : Gx) (st : Stmt) (t : TYd) : Prop := YS φ st (lowY G t)
abbrev PGYs (φ : Fx) (G : Gx) (st : List Stmt) (t : TYd) : Prop := YSs φ st (lowY G t)
theorem YS.wk {φ : Fx} {st : Stmt} {t u : TGy} (h : YS φ st t) (w : ∀ D r σ H, u D r σ H → t D r σ H) : YS φ st u := ⟨fun ip zs c fs K J gd lv D a k r g s0 s σ H on q => h.run ip zs c fs K J gd lv D a k r g s0 s σ H on (w D r σ H q)⟩
theorem YSs.wk {φ : Fx} {st : List Stmt} {t u : TGy} (h : YSs φ st t) (w : ∀ D r σ H, u D r σ H → t D r σ H) : YSs φ st u := ⟨fun ip zs c fs K J gd lv D a k r g s0 s σ H on q => h.run ip zs c fs K J gd lv D a k r g s0 s σ H on (w D r σ H q)⟩
section
variable {φ : Fx} {G : Gx}
def wPl (t : TSd) : TYd := fun D r E => t { nx := D.nx r, rt := fun _ _ => False, bk := D.bk r, ct := D.ct r } E
theorem w_of {st : Stmt} {t : TSd} (h : ∀ j, PZ (φ.cx j) G st t) : PGY φ G st (wPl t) := YS.wk (y_pl h) fun D r σ H ⟨O, E, D0, rr, k, z⟩ =>
  ⟨O, E, { nx := D0.nx r, rt := fun _ _ => False, bk := D0.bk r, ct := D0.ct r }, rr, ⟨fun O' σ' H' E' l r' q => k.nx O' σ' H' E' r (.of l) r' q, fun _ _ _ _ _ _ _ q => q.elim, fun O' σ' H' E' l r' q => k.bk O' σ' H' E' r (.of l) r' q, fun O' σ' H' E' l r' q => k.ct O' σ' H' E' r (.of l) r' q⟩, z⟩
def wSeq (t u : TYd) : TYd := fun D r E => t { D with nx := u D } r E
theorem ws_cons {st : Stmt} {more : List Stmt} {t u : TYd} (h1 : PGY φ G st t) (h2 : PGYs φ G more u) : PGYs φ G (st :: more) (wSeq t u) := YSs.wk (ys_cons h1 h2) fun D r σ H ⟨O, E, Dd, rr, k, z⟩ =>
  ⟨O, E, { Dd with nx := u Dd }, rr, ⟨fun O' σ' H' E' r' l rr' q => ⟨O', E', Dd, rr', k.later l, q⟩, k.bk, k.ct⟩, z⟩
def wEnd0 : TYd := fun D r E => D.nx r E
theorem ws_nil : PGYs φ G [] wEnd0 := YSs.wk ys_nil fun D r σ H ⟨O, E, Dd, rr, k, z⟩ => k.nx O σ H E r .refl rr z
theorem ws_one {st : Stmt} {t : TYd} (h1 : PGY φ G st t) : PGYs φ G [st] (wSeq t wEnd0) := ws_cons h1 ws_nil
def wIf (tt : TDt) (t u : TYd) : TYd := fun D r E => tt E fun b n => if b = true then t D r ⟨E.ρ, n⟩ else u D r ⟨E.ρ, n⟩
theorem w_if {c : Expr} {a b : List Stmt} {tt : TDt} {t u : TYd} {pos : Pos} (hc : ∀ j, PQ (φ.cx j) G c tt) (ha : PGYs φ G a t) (hb : PGYs φ G b u) : PGY φ G (.If c a b pos) (wIf tt t u) := YS.wk (y_if hc ha hb) fun D r σ H ⟨O, E, Dd, rr, k, z⟩ => by
  refine ⟨O, E, _, rr, ?_, z⟩
  rintro b n H1 k1 i1 q1
  have r1 := rr.step k1 i1
  have k' := k.later (.of (rr.lt k1))
  cases b with
  | true =>
    refine iteT ?_
    rw [if_pos rfl] at q1
    exact ⟨O, _, Dd, r1, k', q1⟩
  | false =>
    refine iteF ?_
    rw [if_neg (by decide)] at q1
    exact ⟨O, _, Dd, r1, k', q1⟩
def wWhile (tt : TDt) (tb : TYd) : TYd := fun D r E => ∃ W : Nat → List PyData → En → Prop, (∃ m, W m r E) ∧ ∀ m r E, W m r E → tt E fun b n => if b = true then tb { nx := fun r' E' => ∃ m', m' < m ∧ W m' r' E', ct := fun r' E' => ∃ m', m' < m ∧ W m' r' E', bk := D.nx } r ⟨E.ρ, n⟩ else D.nx r ⟨E.ρ, n⟩
theorem w_while {c : Expr} {body : List Stmt} {tt : TDt} {tb : TYd} {pos : Pos} (hc : ∀ j, PQ (φ.cx j) G c tt) (hb : PGYs φ G body tb) : PGY φ G (.While c body [] pos) (wWhile tt tb) := YS.wk (y_while hc hb) fun D r σ H ⟨O, E, Dd, rr, k, W, ⟨m0, w0⟩, z⟩ => by
  refine ⟨fun m r2 σ2 H2 => ∃ O2 E2, LaT O H O2 H2 ∧ Rel G O2 σ2 H2 E2 ∧ W m r2 E2, ⟨m0, O, E, .refl, rr, w0⟩, ?_⟩
  rintro m r2 σ2 H2 ⟨O2, E2, l2, rr2, w2⟩
  refine ⟨O2, E2, _, rr2, ?_, z m r2 E2 w2⟩
  rintro b n H3 k3 i3 q3
  have r3 := rr2.step k3 i3
  have l3 := l2.trans (.of (rr2.lt k3))
  cases b with
  | true =>
    refine iteT ⟨fun r' σ' H' => ∃ m', m' < m ∧ ∃ O3 E3, LaT O H O3 H' ∧ Rel G O3 σ' H' E3 ∧ W m' r' E3, fun r' σ' H' q => q, ?_⟩
    rw [if_pos rfl] at q3
    exact ⟨O2, _, { nx := fun r' E' => ∃ m', m' < m ∧ W m' r' E', ct := fun r' E' => ∃ m', m' < m ∧ W m' r' E', bk := Dd.nx }, r3, ⟨fun O' σ' H' E' r' l rr ⟨m', hm, q⟩ => ⟨m', hm, O', E', l3.trans l, rr, q⟩, fun O' σ' H' E' r' l rr q => k.nx O' σ' H' E' r' (l3.trans l) rr q, fun O' σ' H' E' r' l rr ⟨m', hm, q⟩ => ⟨m', hm, O', E', l3.trans l, rr, q⟩⟩, q3⟩
  | false =>
    refine iteF ?_
    rw [if_neg (by decide)] at q3
    exact k.nx O2 σ2 H3 _ r2 l3 r3 q3
def wYld (t : TD) : TYd := fun D r E => ∃ d r', r = d :: r' ∧ t E fun d' n => d' = d ∧ fltD d = true ∧ D.nx r' ⟨E.ρ, n⟩
theorem w_yield {T : Hp} {e : Expr} {t : TD} {yp pos : Pos} (ok : FxOk φ) (hT : ∀ b u, T b = some u → ∃ xs, u = .tup xs) (he : ∀ j, PD (φ.cx j) (G0 T) e t) (hco : φ.env.scope.isCoroutine = false := by rfl) (hi : interactive φ.env = false := by rfl) : PGY φ (G0 T) (.Expr (.Yield (some e) yp) pos) (wYld t) :=
  YS.wk (y_yield ok he hco hi) fun D r σ H ⟨O, E, Dd, rr, k, d, r', e, z⟩ => by
    refine ⟨d, r', e, O, E, _, rr, ?_, z⟩
    rintro d' n v H1 k1 i1 rv ⟨rfl, fl, q⟩
    have r1 := rr.step k1 i1
    exact ⟨dv_flt rv (fun a xs h _ => tupOf_eq.mpr h) fl, k.nx _ σ _ _ r' ((LaT.of (rr.lt k1)).trans .strc) (r1.strc hT) q⟩
end
/-! ### the promise of such a generator def -/
abbrev ConY := List PyData → List PyData → Prop
def spYD (C : ConY) (m : Nat) : SpY := fun vs T L => vs.length = m ∧ (∀ b u, T b = some u → ∃ xs, u = .tup xs) ∧ ∃ ds, Paired (Dv (fun _ => False) T) vs ds ∧ C ds L
section
variable {P : Program} {w : World} {K : PySem.W.Frag} {mg : Str → Option Value} {base : Heap}
theorem okYD {x qual : Str} {st : Stmt} {f : Addr} {fd : FuncData} {N ps : List Str} {k : Nat} {C : ConY} {t : Hp → TYd} (F : Fun K x qual st f fd) (S : GScope N ps (defScope st)) (nc : ∀ y ∈ (defScope st).names, y.2 ≠ .cell ∧ y.2 ≠ .free)
    (der : ∀ (T : Hp) (cdv : Value) (A : Around) (fr : List Env) (a0 : Addr) (go : Addr × Obj) (num : Nat) (os : OsState), (∀ b u, T b = some u → ∃ xs, u = .tup xs) → Room k (A.deeper (envOfC qual (defScope st) a0 f cdv)) → FxOk (Fx.mk0 P w K mg base N qual (defScope st) f cdv A fr a0 go num os) →
      PGYs (Fx.mk0 P w K mg base N qual (defScope st) f cdv A fr a0 go num os) (G0 T) (defBody st) (t T))
    (sem : ∀ (T : Hp) (ds L : List PyData), ds.length = ps.length → C ds L → t T { nx := fun r _ => r = [] } L ⟨(ds.map Ar.d).map Ar.sl ++ List.replicate (N.length - ps.length) Sl.no, 0⟩) :
    GFnY P w K mg base (k + 1) f fd ps (spYD C ps.length) := by
  obtain ⟨oc, od, kV, doc, pm, an, cdv, ct, osl, rfl, lk, hcd⟩ := F.ex
  refine gfny_of lk hcd S nc (fun vs T L h => h.1) fun A outer a0 go num os vs T L hr ok h => ?_
  obtain ⟨hl, hT, ds, hv, c⟩ := h
  refine ⟨_, der T cdv A outer a0 go num os hT hr ok, fun _ => False, _, { nx := fun r _ => r = [] }, ?_, ⟨fun _ _ _ _ _ _ _ q => q, fun _ _ _ _ _ _ _ q => q.elim, fun _ _ _ _ _ _ _ q => q.elim⟩, by have := sem T ds L (hv.length.symm.trans hl) c; rw [← hl] at this; exact this⟩
  have hv' : Paired (ArR (fun _ => False) T) vs (ds.map Ar.d) := by
    clear hl c
    induction hv with
    | nil => exact .nil
    | cons a _ ih => exact .cons a ih
  exact rel_start (G := G0 T) hv' rfl trivial
structure CdY (P : Program) (w : World) (K : PySem.W.Frag) (mg : Str → Option Value) (base : Heap) (k : Nat) (x : Str) (f : Addr) (fd : FuncData) (ps : List Str) (C : ConY) : Prop where
  G : GFnY P w K mg base k f fd ps (spYD C ps.length)
  kp : PySem.W.keepIn K (.ref f) = true
  b : Binds K fd ps []
  g : mg x = some (.ref f)
theorem CdY.mono {j k : Nat} {x : Str} {f : Addr} {fd : FuncData} {ps : List Str} {C : ConY} (c : CdY P w K mg base j x f fd ps C) (h : j ≤ k) : CdY P w K mg base k x f fd ps C := by
  refine ⟨⟨c.G.len, fun A outer s H T args us vs L hr e0 hT hb hv hs => codeAny_mono (c.G.run A outer s H T args us vs L (hr.mono h) e0 hT hb hv hs) fun r s' q => ?_⟩, c.kp, c.b, c.g⟩
  cases r with
  | error e => exact q
  | ok fl => cases fl with
    | ret u =>
      obtain ⟨φ, n, cc, q0, qn, q1, q2, q3, q4, q5, q6, q7, q8, q9, q10, q11, q12, wk⟩ := q
      exact ⟨φ, n, cc, q0, qn, q1, q2, q3, q4, q5, q6, q7, q8, q9, q10, q11, q12, fun A' hr' => wk A' (hr'.mono h)⟩
    | _ => exact q
end
/-! ### for over its call -/
section
variable {X : Cx} {G : Gx}
def zForY (C : ConY) (m : Nat) (ts : TDa) (tg : Tg) (tb : TSd) : TSd := fun D E => ts E fun as n => ∃ ds L, as = ds.map Ar.d ∧ as.length = m ∧ (∀ d ∈ ds, fltD d = true) ∧ C ds L ∧ dForL tg tb D L ⟨E.ρ, n⟩
open Classical in
theorem z_forY {k m : Nat} {f : Addr} {fd : FuncData} {ps : List Str} {C : ConY} {x : Str} {p pos1 pos : Pos} {e target : Expr} {es : List Expr} {ts : TDa} {tg : Tg} {tb : TSd} {body : List Stmt} (F : GFnY X.prog X.w X.K X.mg X.base k f fd ps (spYD C m)) (hr : Room (k + 1) X.A) (hm : X.mg x = some (.ref f)) (hk : PySem.W.keepIn X.K (.ref f) = true) (hb : Binds X.K fd ps [])
    (ha : PR X G (e :: es) ts) (ht : PG X.nox target (tg.g X.K)) (hbd : PZs X.nox G body tb) (hg : Gl X x := by rfl) (hdb : (x == ("__debug__" : Str)) = false := by decide) (he : starEach (e :: es) X.env = (false, eval e X.env) :: starEach es X.env := by rfl) (hpl : (backTo pos1 (starEach es X.env)).any (·.1) = false := by rfl)
    (hs : ∀ y, foldedSetIterable (.Call (.Name x p) (e :: es) [] pos1) X.env y = pure y := by intro _; rfl) : PZ X G (.For target (.Call (.Name x p) (e :: es) [] pos1) body [] pos) (zForY C m ts tg tb) :=
  PS.wk (ps_forY (pyn_call F (hr.mono (by omega)) hg hm hk hb ha hdb he hpl) hr ht hbd hs) fun D σ H ⟨O, E, Dd, r, k, z⟩ => by
    refine ⟨O, E, _, r, ?_, z⟩
    rintro as n vs H1 k1 i1 rv ⟨ds, L, rfl, hl, fl, c, q1⟩
    replace q1 := q1.h
    have r1 := r.step k1 i1
    have L1 := r.lt k1
    refine ⟨fun b => if O b then none else tupOf H1 b, L, fun b v h => ?_, ⟨rv.length.trans hl, fun b u h => ?_, ds, ?_, c⟩, fun i T σ2 H2 => ∃ O2 E2, Later O H1 O2 H2 ∧ Rel G O2 σ2 H2 E2 ∧ (∀ b u, T b = some u → H2 b = some u ∧ ¬ O2 b) ∧ dForL0 tg tb Dd (L.drop i) E2, ⟨O, _, Later.refl _ _, r1, fun b u h => ?_, by simpa using q1⟩, fun i T σ2 H2 ⟨_, _, _, _, h, _⟩ b u e => (h b u e).1, ?_, ?_⟩
    · have h : (if O b then none else tupOf H1 b) = some v := h
      split at h
      · cases h
      · obtain ⟨xs, rfl, e⟩ := tupOf_tup h
        exact ⟨e, xs, rfl⟩
    · have h : (if O b then none else tupOf H1 b) = some u := h
      split at h
      · cases h
      · obtain ⟨xs, rfl, e⟩ := tupOf_tup h
        exact ⟨xs, rfl⟩
    · clear hl c q1 he hpl ha
      have key : ∀ {vs : List V} {ds : List PyData}, Paired (ArR O H1) vs (ds.map Ar.d) → (∀ d ∈ ds, fltD d = true) → Paired (Dv (fun _ => False) fun b => if O b then none else tupOf H1 b) vs ds := by
        intro vs ds
        induction ds generalizing vs with
        | nil => intro h _; cases h; exact .nil
        | cons d ds ih =>
          intro h hf
          cases h with
          | cons a t => exact .cons (dv_flt (show Dv O H1 _ d from a) (fun a xs h n => by rw [if_neg n]; exact tupOf_eq.mpr h) (hf d List.mem_cons_self)) (ih t fun x hx => hf x (List.mem_cons_of_mem _ hx))
      exact key rv fl
    · have h : (if O b then none else tupOf H1 b) = some u := h
      split at h
      · cases h
      · rename_i no
        obtain ⟨xs, rfl, e⟩ := tupOf_tup h
        exact ⟨e, no⟩
    · rintro i d T σ2 H2 T' xv hd ⟨O2, E2, L2, r2, tk, q2⟩ ⟨up, nw⟩ dv
      have hi := (List.getElem?_eq_some_iff.mp hd).1
      rw [List.drop_eq_getElem_cons hi, (List.getElem?_eq_some_iff.mp hd).2] at q2
      obtain ⟨ρ, ee, q3⟩ := opt_el q2
      have k3 : Kp G.F.S H2 (mrg H2 T') := fun b u h _ => Stay.of (mrg_some h)
      have r3 : Rel G O2 σ2 (mrg H2 T') E2 := r2.step k3 (G.F.keep _ _ _ r2.str fun x u _ h => mrg_some h)
      have tk' : ∀ b u, T' b = some u → mrg H2 T' b = some u ∧ ¬ O2 b := fun b u h => by
        rcases (nw b u h).2 with h2 | h2
        · exact ⟨mrg_some (tk b u h2).1, (tk b u h2).2⟩
        · exact ⟨by rw [mrg_none h2]; exact h, fun z => r2.al b z h2⟩
      have L3 : Later O H1 O2 (mrg H2 T') := L2.trans (r2.lt k3)
      have old : ∀ y, G.Hs y ≠ none → H1 y ≠ none := fun y h => by
        by_cases q : G.F.S y
        · exact G.F.al _ H1 y i1 q
        · cases w : G.Hs y with
          | none => exact (h w).elim
          | some u => exact Stay.ne (r1.kp y u w q)
      have again : ∀ O' σ' H' E', Later O2 (mrg H2 T') O' H' → Rel G O' σ' H' E' → dForL0 tg tb Dd (L.drop (i + 1)) E' → ∀ H'', Fg H1 H' H'' → ∃ O2 E2, Later O H1 O2 H'' ∧ Rel G O2 σ' H'' E2 ∧ (∀ b u, T' b = some u → H'' b = some u ∧ ¬ O2 b) ∧ dForL0 tg tb Dd (L.drop (i + 1)) E2 := fun O' σ' H' E' l rr q H'' f => by
        have L4 := L3.trans l
        refine ⟨_, E', ⟨fun y h => L4.o y h.1, fun y u h n => Stay.trans (L4.h y u h n) fun u' e' => Stay.of (f.kp y u' e' (.inl (by rw [h]; exact fun z => by cases z)))⟩, rr.drop' f old, fun b u h => ?_, q⟩
        obtain ⟨h1, h2⟩ := tk' b u h
        obtain ⟨xs, rfl⟩ := (nw b u h).1
        refine ⟨f.kp b _ (l.h b _ h1 h2) (.inr trivial), fun z => ?_⟩
        rcases l.o b z.1 with w | w
        · exact h2 w
        · rw [h1] at w
          cases w
      refine Tg.ok tg r3 (dv_up dv tk') ee fun σ' r' _ => ⟨O2, _, { Dd with nx := dForL0 tg tb Dd (L.drop (i + 1)), ct := dForL0 tg tb Dd (L.drop (i + 1)), bk := Dd.nx }, r', ⟨again, k.rt, fun O' σ' H' E' l rr q => k.nx O' σ' H' E' ((L1.trans L3).trans l) rr q, again⟩, q3⟩
    · rintro T σ2 H2 T' ⟨O2, E2, L2, r2, tk, q2⟩ ⟨up, nw⟩
      have k3 : Kp G.F.S H2 (mrg H2 T') := fun b u h _ => Stay.of (mrg_some h)
      have r3 : Rel G O2 σ2 (mrg H2 T') E2 := r2.step k3 (G.F.keep _ _ _ r2.str fun x u _ h => mrg_some h)
      rw [List.drop_length] at q2
      exact k.nx O2 σ2 _ E2 ((L1.trans L2).trans (r2.lt k3)) r3 q2
end
end Dl
/-! list(g) of such a generator. -/
namespace Gf
open PySem PySem.Spec PyProof.Rows L2 GenW Gd
section
variable {X : Cx} {pins : List (Addr × Obj)} {φ : Fx} {n : Nat} {L : List PyData} {A B : Around} {i : Nat} {g : Gh} {σ : L2.St} {H : Hp} {s : Shared} {S : Addr}
/-- an address of the walker's own -/
structure Mine (X : Cx) (pins : List (Addr × Obj)) (S : Addr) : Prop where
  ex : S ∈ X.ex ∨ X.s_0.heap.objs.size ≤ S
  cl : ∀ x c, X.env.cells.lookup x = some c → c ≠ S
  pn : ∀ p ∈ X.pn ++ pins, p.1 ≠ S
theorem Stand.push {acc : Array Value} {c : Nat} {v : Value} (M : Mine X pins S) (T : Stand X ((S, lstObj acc c) :: pins) φ n L B i g σ H s) :
    ∃ c', Stand X ((S, lstObj (acc.push v) c') :: pins) φ n L B i g σ H { s with heap := s.heap.update S (Obj.mapSeq (·.push v)) } := by
  have pS := T.inv.pin (S, lstObj acc c) (List.mem_append_right _ List.mem_cons_self)
  have hS : s.heap.get? S = some (lstObj acc c) := pS.1
  have kp : ∀ b o, b ≠ S → s.heap.get? b = some o → (s.heap.update S (Obj.mapSeq (·.push v))).get? b = some o := fun b o hb e => (Heap.get?_update_other _ _ (Ne.symm hb)).trans e
  have fS : ∀ b ∈ g.fp, b ≠ S := fun b hb z => (T.con.fp b hb).2.2.2.2.2 (S, lstObj acc c) (List.mem_append_right _ List.mem_cons_self) z.symm
  have I0 : Inv X (pins ++ pinsAt g.fp s.heap) σ H s := T.pinned.pins_of fun p hp => T.pinned.pin p (List.mem_append_right _ (by
    rcases List.mem_append.mp hp with h | h
    · exact List.mem_append_left _ (List.mem_cons_of_mem _ h)
    · exact List.mem_append_right _ h))
  have I1 : Inv X (pins ++ pinsAt g.fp s.heap) σ H { s with heap := s.heap.update S (Obj.mapSeq (·.push v)) } := I0.turned (t' := s.toks) kp pS.2.1 pS.2.2.1 M.ex M.cl fun p hp => by
    rcases List.mem_append.mp hp with h | h
    · exact M.pn p (List.mem_append_left _ h)
    · rcases List.mem_append.mp h with h | h
      · exact M.pn p (List.mem_append_right _ h)
      · exact fS _ (of_pinsAt h).1
  obtain ⟨c', e'⟩ : ∃ c', (s.heap.update S (Obj.mapSeq (·.push v))).get? S = some (lstObj (acc.push v) c') := ⟨_, Heap.get?_update_self _ hS rfl⟩
  refine ⟨c', ⟨I1.pins_of fun p hp => ?_, T.na, T.base, kp _ _ (fS _ T.gof) T.go, T.god, ?_, ⟨T.con.st, T.con.hP, T.con.hw, T.con.T, fun b hb => ?_, T.con.ge, fun b hb => ?_, T.con.cl, fun b u o e l ho => ?_, T.con.hk, T.con.fr, T.con.tt⟩, T.num, T.sg, T.nn, T.gof⟩⟩
  · rcases List.mem_cons.mp hp with h | h
    · subst h
      exact ⟨e', pS.2.1, pS.2.2.1, pS.2.2.2.1, fun v q => by cases q⟩
    · exact I1.pin p (List.mem_append_right _ (List.mem_append_left _ h))
  · obtain ⟨x, hx, go⟩ := T.gen
    refine ⟨x, hx, fun s2 z => go s2 ⟨z.os, z.bare, fun b hb o e => z.keep b hb o (kp b o (fS b hb) e), z.tup, z.bs, z.funs, z.gs, z.run⟩⟩
  · obtain ⟨h1, h2, h3, h4, h5, h6⟩ := T.con.fp b hb
    refine ⟨h1, h2, h3, h4, h5, fun p hp => ?_⟩
    rcases List.mem_append.mp hp with h | h
    · exact h6 p (List.mem_append_left _ h)
    · rcases List.mem_cons.mp h with h | h
      · subst h
        exact Ne.symm (fS b hb)
      · exact h6 p (List.mem_append_right _ (List.mem_cons_of_mem _ h))
  · obtain ⟨o, e, k⟩ := T.con.obj b hb
    exact ⟨o, kp b o (fS b hb) e, k⟩
  · have bS : b ≠ S := fun z => by
      rw [z, show H S = none from pS.2.1] at e
      cases e
    rw [Heap.get?_update_other _ _ (Ne.symm bS)] at ho
    exact T.con.nc b u o e l ho
/-- what has been handed out so far -/
structure Sofar (H0 T0 : Hp) (L : List PyData) (i : Nat) (T H : Hp) (vs : List V) : Prop where
  grow : ∀ b u, H0 b = some u → H b = some u
  new : ∀ b u, T b = some u → H b = some u ∧ (∃ xs, u = .tup xs) ∧ (T0 b = some u ∨ H0 b = none)
  val : Paired (Dv (fun _ => False) T) vs (L.take i)
theorem dv_more {T T' : Hp} {v : V} {d : PyData} (h : Dv (fun _ => False) T v d) (k : ∀ b u, T b = some u → T' b = some u) : Dv (fun _ => False) T' v d := Dl.dv_up h fun b u e => ⟨k b u e, fun z => z⟩
theorem Sofar.next {H0 T0 T T' H : Hp} {vs : List V} {x : V} {d : PyData} (S : Sofar H0 T0 L i T H vs) (hd : L[i]? = some d) (up : ∀ b v, T b = some v → T' b = some v) (nw : ∀ b v, T' b = some v → (∃ xs, v = .tup xs) ∧ (T b = some v ∨ H b = none)) (dv : Dv (fun _ => False) T' x d) : Sofar H0 T0 L (i + 1) T' (mrg H T') (vs ++ [x]) := by
  refine ⟨fun b u e => mrg_some (S.grow b u e), fun b u e => ?_, ?_⟩
  · obtain ⟨h1, h2⟩ := nw b u e
    rcases h2 with h2 | h2
    · exact ⟨mrg_some (S.new b u h2).1, h1, (S.new b u h2).2.2⟩
    · refine ⟨by rw [mrg_none h2]; exact e, h1, .inr ?_⟩
      cases q : H0 b with
      | none => rfl
      | some w => rw [S.grow b w q] at h2; cases h2
  · have et : L.take (i + 1) = L.take i ++ [d] := by rw [List.take_succ, hd]; rfl
    rw [et]
    have a := L2.Paired.mapP S.val fun v d h => dv_more h up
    clear S hd et
    generalize L.take i = ds at a
    induction a with
    | nil => exact .cons dv .nil
    | cons h _ ih => exact .cons h ih
theorem Sofar.last {H0 T0 T T' H : Hp} {vs : List V} (S : Sofar H0 T0 L i T H vs) (up : ∀ b v, T b = some v → T' b = some v) (nw : ∀ b v, T' b = some v → (∃ xs, v = .tup xs) ∧ (T b = some v ∨ H b = none)) : Sofar H0 T0 L i T' (mrg H T') vs := by
  refine ⟨fun b u e => mrg_some (S.grow b u e), fun b u e => ?_, L2.Paired.mapP S.val fun v d h => dv_more h up⟩
  obtain ⟨h1, h2⟩ := nw b u e
  rcases h2 with h2 | h2
  · exact ⟨mrg_some (S.new b u h2).1, h1, (S.new b u h2).2.2⟩
  · refine ⟨by rw [mrg_none h2]; exact e, h1, .inr ?_⟩
    cases q : H0 b with
    | none => rfl
    | some w => rw [S.grow b w q] at h2; cases h2
theorem drainY {R : Result → Shared → Prop} {res : Value} {H0 T0 : Hp} (M : Mine X pins S) (hh : A.handled = none) (hd : A.depth < recursionLimit) (hL : L.length ≤ sizeLine)
    (fin : ∀ s' acc c H' T vs, Inv X ((S, lstObj acc c) :: pins) σ H' s' → Vals vs acc.toList → Sofar H0 T0 L L.length T H' vs → R (.ok (.ret res)) s') :
    ∀ (m i : Nat) (g : Gh) (H : Hp) (s : Shared) (acc : Array Value) (c : Nat) (vs : List V), m + i = L.length → Stand X ((S, lstObj acc c) :: pins) φ n L A.in1.in1 i g σ H s → Vals vs acc.toList → Sofar H0 T0 L i g.T H vs →
      codeAny (model X.prog X.w) A (.builtin "list.extend.loop" ⟨[.ref S, .ref φ.go.1, res], []⟩) R s := by
  intro m
  induction m with
  | zero =>
    intro i g H s acc c vs hm T rv sf
    obtain rfl : i = L.length := by omega
    refine codeAny_builtin F.entry_extend_loop ?_
    rw [Around.under_plainId F.plain_extend_loop _]
    show wpAny _ A.in1 (pyNext (.ref φ.go.1) >>= _) _ _ s
    refine wpAny_bind (wpAny_mono (T.done (A := A.in1) (Nat.le_refl _) hh hd (E := fun _ _ => False)) (fun r u h => ?_) fun _ _ z => z.elim)
    obtain ⟨hr, T', up, nw, I, _⟩ := h
    subst hr
    exact wpAny_pure (fin u acc c _ T' vs I rv (sf.last up nw))
  | succ m ih =>
    intro i g H s acc c vs hm T rv sf
    have hi : i < L.length := by omega
    have e := List.getElem?_eq_getElem hi
    refine codeAny_builtin F.entry_extend_loop ?_
    rw [Around.under_plainId F.plain_extend_loop _]
    show wpAny _ A.in1 (pyNext (.ref φ.go.1) >>= _) _ _ s
    refine wpAny_bind (wpAny_mono (T.item (A := A.in1) e hd (E := fun _ _ => False)) (fun r u h => ?_) fun _ _ z => z.elim)
    obtain ⟨v, x, g', rfl, rx, dv, up, nw, T1, sl, _⟩ := h
    have pS := T1.inv.pin (S, lstObj acc c) (List.mem_append_right _ List.mem_cons_self)
    have num : acc.size = i := by
      have e1 := rv.length
      have e2 : vs.length = (L.take i).length := sf.val.length
      have e3 : acc.toList.length = acc.size := by simp
      rw [List.length_take] at e2
      omega
    show wpAny _ A.in1 (updateSeq S (·.push v) >>= _) _ _ _
    refine wpAny_bind (wpAny_updateSeq (show u.heap.get? S = some (lstObj acc c) from pS.1) rfl (wpAny_pure ⟨plainId_quiet F.plain_extend_loop _, ?_⟩) (by omega) (by show (acc.push v).size ≤ sizeLine + 1; rw [Array.size_push]; omega))
    obtain ⟨c', T2⟩ := T1.push (v := v) M
    refine ih (i + 1) g' _ _ (acc.push v) c' (vs ++ [x]) (by omega) T2 ?_ (sf.next e up nw dv)
    rw [Array.toList_push]
    exact rv.append (.cons rx .nil)
end
/-! ### the expression -/
section
variable {X : Cx} {k : Nat} {e : Expr} {ty : TYen} {p pos : Pos}
def tListY (ty : TYen) : TE := fun σ H Q => ty σ H fun T L H1 => L.length ≤ sizeLine ∧ ∀ a H2 T2 vs, Sofar H1 T L L.length T2 H2 vs → H2 a = none → Q (.ref a) (upd H2 a (.lst vs))
theorem pe_listY (h : PYen X k e ty) (hr : Room (k + 3) X.A) (hm : X.mg "list" = none) (hg : Gl X "list" := by rfl) (he : starEach [e] X.env = (false, eval e X.env) :: starEach [] X.env := by rfl) : PE X (.Call (.Name "list" p) [e] [] pos) (tListY ty) := by
  refine ⟨fun pins s σ H Q I want => ?_⟩
  refine wpAny_Call_Name_kw (ld_blt I hg hm (show bootBuiltins (Str.ofString "list") = some (.type "list") by decide +kernel) ?_ (by decide) (by decide))
  refine PyProof.Rows.callWith_type1 ?_ he rfl
  rw [he]
  show wpAny _ _ (spliced ((false, eval e X.env) :: backTo pos (starEach [] X.env))) _ _ s
  refine Calls.spliced_cons (thn (h.run pins s σ H _ I want) ?_)
  rintro u s1 ⟨H1, sc, T, L, I1, made, hT, hL, q⟩
  refine Calls.spliced_nil ?_
  have rk : Room k X.A.in1.in1.in1 := ⟨hr.hd, by have := hr.dp; show X.A.depth + 3 * k + 5 < _; omega, by have := hr.un; show X.A.units + 1 + 1 + 1 + 16 * k + 200 < _; omega⟩
  obtain ⟨φ, n, rfl, ea, S0, old, hsz, hz, _⟩ := made.stand I1 hT (B := X.A.in1.in1.in1) rk I1.ok.frames
  have isg := S0.isGen
  have nl := S0.inv.nolimit
  have bigS : sc.heap.objs.size ≤ s1.heap.objs.size := by
    obtain ⟨o, e, _⟩ := S0.con.obj _ S0.gof
    have l1 := S0.con.ge _ S0.gof
    have l2 := Heap.lt_size e
    rw [ea] at l1
    exact Nat.le_of_lt (Nat.lt_of_le_of_lt l1 l2)
  generalize hS : s1.heap.objs.size = S at bigS
  have Sa : S ≠ φ.go.1 := by
    obtain ⟨o, e, _⟩ := S0.con.obj _ S0.gof
    have l2 := Heap.lt_size e
    rw [hS] at l2
    exact Nat.ne_of_gt l2
  have M : Mine X pins S := by
    have f := S0.inv.fpOk (b := S) (H' := H1) (Nat.le_of_eq hS) (S0.inv.hok.fresh (Nat.le_of_eq hS))
    exact ⟨f.2.2.2.1, f.2.2.2.2.1, f.2.2.2.2.2⟩
  refine callType_codes (Q₁ := fun obj s₂ => obj = .ref S ∧ s₂ = { s1 with heap := s1.heap.push { cls := .type "list", data := .seq #[] } }) F.called_list (F.typeCall_list_1 _) F.entry_list_init (by rw [← hS]; exact code_list_new _ ⟨rfl, rfl⟩) fun obj s₂ h₂ => ?_
  obtain ⟨rfl, rfl⟩ := h₂
  have at0 : (s1.heap.push { cls := .type "list", data := .seq #[] }).get? S = some { cls := .type "list", data := .seq #[] } := by rw [← hS]; exact Heap.get?_push_size _ rfl
  refine ⟨⟨_, at0, rfl⟩, F.args_list_init_2 _ _, ?_⟩
  show wpAny _ X.A.in1.in1 (do let old ← Builtin.List.listItems (.ref S); Builtin.List.listUpdate (.ref S) (fun _ => #[]); letGo old.toList.reverse; Builtin.List.listExtendWith (.ref S) (.ref φ.go.1) .none) _ _ _
  refine wpAny_bind ?_
  unfold Builtin.List.listItems
  refine wpAny_bind (wpAny_seqItems at0 rfl (wpAny_pure ?_))
  show wpAny _ X.A.in1.in1 (updateSeq S (fun _ => #[]) >>= fun _ => letGo (#[] : Array Value).toList.reverse >>= fun _ => Builtin.List.listExtendWith (.ref S) (.ref φ.go.1) .none) _ _ _
  refine wpAny_bind (wpAny_updateSeq at0 rfl ?_)
  have at1 := Heap.get?_update_self (Obj.mapSeq (fun _ => (#[] : Array Value))) at0 rfl
  refine wpAny_bind (wpAny_letGo ?_)
  unfold Builtin.List.listExtendWith
  have more : ∀ (hp : Heap) (f : Obj → Obj), (∀ b o, s1.heap.get? b = some o → hp.get? b = some o) → ∀ b o, s1.heap.get? b = some o → (hp.update S f).get? b = some o := fun hp f q b o e =>
    (Heap.get?_update_other _ _ (Ne.symm (by rw [← hS]; exact Nat.ne_of_lt (Heap.lt_size e)))).trans (q b o e)
  have kp0 : ∀ b o, s1.heap.get? b = some o → (s1.heap.push { cls := .type "list", data := .seq #[] }).get? b = some o := fun b o e => Heap.get?_push_of_some _ e
  have kp1 := more _ (Obj.mapSeq (fun _ => (#[] : Array Value))) kp0
  have gens : ∀ {hp : Heap}, (∀ b o, s1.heap.get? b = some o → hp.get? b = some o) → hp.IsGen φ.go.1 n := fun {hp} q => isg.keeps q
  refine wpAny_bind (wpAny_typeOf (Heap.IsGen.typeIs (s := { s1 with heap := _ }) (gens kp1)) ?_)
  have w1 : Builtin.List.listSameRef (.ref S) (.ref φ.go.1) = false := by simp [Builtin.List.listSameRef, Sa]
  have w2 : (Value.type "generator" == Value.type "list") = false := by decide
  have w3 : (Value.type "generator" == Value.type "tuple") = false := by decide
  simp only [w1, w2, w3, Bool.or_false, Bool.false_eq_true, if_false]
  refine wpAny_bind (wpAny_pyIter_gen (s := { s1 with heap := _ }) (gens kp1) ?_)
  refine wpAny_bind (wpAny_holding ?_)
  unfold Builtin.List.listLengthHint
  refine wpAny_bind (wpAny_specialOf (Heap.IsGen.typeIs (s := { s1 with heap := _ }) (gens kp1)) F.gen_no_len ?_)
  show wpAny _ X.A.in1.in1 (specialOf (Value.ref φ.go.1) (Str.ofString "__length_hint__") >>= _) _ _ _
  refine wpAny_bind (wpAny_specialOf (Heap.IsGen.typeIs (s := { s1 with heap := _ }) (gens kp1)) F.gen_no_hint ?_)
  refine wpAny_pure ?_
  show wpAny _ X.A.in1.in1 (rule "list.extend.makes-room" >>= fun _ => Builtin.List.listTouch (.ref S) >>= fun _ => again (.builtin "list.extend.loop" ⟨[.ref S, .ref φ.go.1, .none], []⟩)) _ _ _
  refine wpAny_bind (wpAny_rule (wpAny_bind ?_))
  show wpAny _ X.A.in1.in1 (updateSeq S (·.push .none) >>= fun _ => updateSeq S (·.pop)) _ _ _
  refine wpAny_bind (wpAny_updateSeq at1 rfl ?_)
  have at2 := Heap.get?_update_self (Obj.mapSeq (·.push Value.none)) at1 rfl
  refine wpAny_updateSeq (hz := by seq_fits) at2 rfl ?_
  have at3 := Heap.get?_update_self (Obj.mapSeq (·.pop)) at2 rfl
  have kp3 := more _ (Obj.mapSeq (·.pop)) (more _ (Obj.mapSeq (·.push Value.none)) kp1)
  refine wpAny_pure ⟨plainId_quiet F.plain_extend_loop _, ?_⟩
  generalize hf : (((s1.heap.push { cls := .type "list", data := .seq #[] }).update S (Obj.mapSeq fun _ => (#[] : Array Value))).update S (Obj.mapSeq (·.push Value.none))).update S (Obj.mapSeq (·.pop)) = hp at at3 kp3
  -- the walk over the heap with the new list
  have nS : H1 S = none := S0.inv.hok.fresh (Nat.le_of_eq hS)
  have I2 : Inv X pins σ H1 { s1 with heap := hp } := S0.inv.call' (ch := []) rfl (Un.kept kp3) (S0.inv.hok.kept kp3) S0.inv.bare fun b z => (List.not_mem_nil z).elim
  have f2 := S0.inv.fpOk (b := S) (H' := H1) (Nat.le_of_eq hS) nS
  obtain ⟨cS, at3⟩ : ∃ c, hp.get? S = some (lstObj #[] c) := ⟨_, at3⟩
  have I3 : Inv X ((S, lstObj #[] cS) :: pins) σ H1 { s1 with heap := hp } := I2.pins_of fun p hp => by
    rcases List.mem_cons.mp hp with h | h
    · subst h
      exact ⟨at3, nS, f2.2.1, f2.2.2.1, fun v q => by cases q⟩
    · exact I2.pin p (List.mem_append_right _ h)
  have fS : ∀ b ∈ [φ.a0, φ.go.1], b ≠ S := fun b hb => by
    obtain ⟨o, e, _⟩ := S0.con.obj b hb
    rw [← hS]
    exact Nat.ne_of_lt (Heap.lt_size e)
  have S3 : Stand X ((S, lstObj #[] cS) :: pins) φ n L X.A.in1.in1.in1 0 ⟨T, [φ.a0, φ.go.1], []⟩ σ H1 { s1 with heap := hp } := by
    refine ⟨I3, S0.na, S0.base, kp3 _ _ S0.go, S0.god, ?_, ⟨S0.con.st, S0.con.hP, S0.con.hw, S0.con.T, fun b hb => ?_, S0.con.ge, fun b hb => ?_, S0.con.cl, fun b u o e l ho => ?_, S0.con.hk, S0.con.fr, S0.con.tt⟩, S0.num, S0.sg, S0.nn, S0.gof⟩
    · obtain ⟨x, hx, go⟩ := S0.gen
      exact ⟨x, hx, fun s2 z => go s2 ⟨z.os, z.bare, fun b hb o e => z.keep b hb o (kp3 b o e), z.tup, z.bs, z.funs, z.gs, z.run⟩⟩
    · obtain ⟨h1, h2, h3, h4, h5, h6⟩ := S0.con.fp b hb
      refine ⟨h1, h2, h3, h4, h5, fun p hp => ?_⟩
      rcases List.mem_append.mp hp with h | h
      · exact h6 p (List.mem_append_left _ h)
      · rcases List.mem_cons.mp h with h | h
        · subst h
          exact Ne.symm (fS b hb)
        · exact h6 p (List.mem_append_right _ h)
    · obtain ⟨o, e, kk⟩ := S0.con.obj b hb
      exact ⟨o, kp3 _ _ e, kk⟩
    · exact absurd (Nat.lt_of_lt_of_le (old b (by rw [e]; exact fun z => by cases z)) l) (Nat.lt_irrefl _)
  refine drainY (A := X.A.in1) (S := S) (H0 := H1) (T0 := T) M hr.hd (by have := hr.dp; show X.A.depth < _; omega) hL (fun s' acc c H' T' vs I' rv sf => ?_) L.length 0 _ H1 _ #[] cS [] rfl S3 .nil ⟨fun _ _ e => e, fun b u e => ⟨(hT b u e).1, (hT b u e).2, .inl e⟩, by rw [List.take_zero]; exact .nil⟩
  have pS := I'.pin (S, lstObj acc c) (List.mem_append_right _ List.mem_cons_self)
  have hS' : s'.heap.get? S = some (lstObj acc c) := pS.1
  have nS' : H' S = none := pS.2.1
  have len : vs.length = L.length := by
    have := sf.val.length
    rw [List.take_length] at this
    exact this
  have I5 : Inv X pins σ H' s' := I'.pins_of fun p hp => I'.pin p (List.mem_append_right _ (List.mem_cons_of_mem _ hp))
  have I6 : Inv X pins σ (upd H' S (.lst vs)) s' := by
    refine I5.call' (ch := [S]) rfl ⟨fun b o e _ _ _ => e, fun b o e _ _ _ => ⟨o.slots, e⟩, fun b o e nb hb => ?_, fun b o e _ => ⟨o, e⟩, fun b xs e => ?_, fun b o u e => ?_, fun b ps e => ?_⟩ (fun b u e => ?_) I5.bare fun b hb => ?_
    · rw [upd_ne (fun z => hb (by rw [z]; exact List.mem_singleton.mpr rfl))]
      exact nb
    · rw [upd_ne (ne_of_none e nS')]
      exact e
    · rw [upd_ne (ne_of_none e nS')]
      exact e
    · exact ⟨#[], by rw [upd_ne (ne_of_none e nS'), e]; simp⟩
    · by_cases z : b = S
      · subst z
        rw [upd_same] at e
        cases e
        exact ⟨by rw [len]; exact hL, acc.toList, c, rv, by rw [hS']⟩
      · rw [upd_ne z] at e
        exact (I5.hok b u e).stay (fun _ _ _ q => q) (fun d q => by rw [upd_ne (ne_of_none q nS')]; exact q) fun d xs q => by rw [upd_ne (ne_of_none q nS')]; exact q
    · rw [List.mem_singleton.mp hb]
      exact ⟨M.ex, pS.2.2.1, M.cl, M.pn⟩
  exact ⟨rfl, ⟨.ref S, upd H' S (.lst vs), I6, rfl, q S H' T' vs sf nS'⟩⟩
end
end Gf
namespace Dl
open PySem PySem.Spec PyProof.Rows L2 Gd GenW Gf
section
variable {X : Cx} {G : Gx}
def dLstY (C : ConY) (m : Nat) (ts : TDa) : TD := fun E Q => ts E fun as n => ∃ ds L, as = ds.map Ar.d ∧ as.length = m ∧ (∀ d ∈ ds, fltD d = true) ∧ C ds L ∧ L.length ≤ 100000 ∧ Q (.list L) n
open Classical in
theorem pd_lstY {k m : Nat} {f : Addr} {fd : FuncData} {ps : List Str} {C : ConY} {x : Str} {p p1 pos pos1 : Pos} {e : Expr} {es : List Expr} {ts : TDa} (F : GFnY X.prog X.w X.K X.mg X.base k f fd ps (spYD C m)) (hr : Room (k + 3) X.A) (hm : X.mg x = some (.ref f)) (hk : PySem.W.keepIn X.K (.ref f) = true) (hb : Binds X.K fd ps [])
    (ha : PR X G (e :: es) ts) (ml : X.mg "list" = none) (gl : Gl X "list" := by rfl) (hg : Gl X x := by rfl) (hdb : (x == ("__debug__" : Str)) = false := by decide) (he : starEach (e :: es) X.env = (false, eval e X.env) :: starEach es X.env := by rfl) (hpl : (backTo pos1 (starEach es X.env)).any (·.1) = false := by rfl)
    (he2 : starEach [.Call (.Name x p1) (e :: es) [] pos1] X.env = (false, eval (.Call (.Name x p1) (e :: es) [] pos1) X.env) :: starEach [] X.env := by rfl) :
    PD X G (.Call (.Name "list" p) [.Call (.Name x p1) (e :: es) [] pos1] [] pos) (dLstY C m ts) :=
  PE.wk (pe_listY (pyn_call F (hr.mono (by omega)) hg hm hk hb ha hdb he hpl) hr ml gl he2) fun σ H Q ⟨O, E, Qd, r, im, z⟩ => by
    refine ⟨O, E, _, r, ?_, z⟩
    rintro as n vs H1 k1 i1 rv ⟨ds, L, rfl, hl, fl, c, ll, q1⟩
    have r1 := r.step k1 i1
    have tin : ∀ b u, (if O b then none else tupOf H1 b) = some u → H1 b = some u ∧ ¬ O b ∧ ∃ xs, u = .tup xs := fun b u h => by
      split at h
      · cases h
      · rename_i no
        obtain ⟨xs, rfl, e⟩ := tupOf_tup h
        exact ⟨e, no, xs, rfl⟩
    refine ⟨fun b => if O b then none else tupOf H1 b, L, fun b v h => ⟨(tin b v h).1, (tin b v h).2.2⟩, ⟨rv.length.trans hl, fun b u h => (tin b u h).2.2, ds, ?_, c⟩, Nat.le_trans ll (by decide), ?_⟩
    · clear hl c q1 he hpl ha
      have key : ∀ {vs : List V} {ds : List PyData}, Paired (ArR O H1) vs (ds.map Ar.d) → (∀ d ∈ ds, fltD d = true) → Paired (Dv (fun _ => False) fun b => if O b then none else tupOf H1 b) vs ds := by
        intro vs ds
        induction ds generalizing vs with
        | nil => intro h _; cases h; exact .nil
        | cons d ds ih =>
          intro h hf
          cases h with
          | cons a t => exact .cons (dv_flt (show Dv O H1 _ d from a) (fun a xs h n => by rw [if_neg n]; exact tupOf_eq.mpr h) (hf d List.mem_cons_self)) (ih t fun x hx => hf x (List.mem_cons_of_mem _ hx))
      exact key rv fl
    · rintro a H2 T2 ws sf na
      have k2 : Kp G.F.S H1 H2 := fun b u h _ => Stay.of (sf.grow b u h)
      have r2 := r1.step k2 (G.F.keep _ _ _ i1 fun x u _ h => sf.grow x u h)
      have r3 := r2.fin (same_upd' (o := .lst ws) na)
      have tk : ∀ b u, T2 b = some u → H2 b = some u ∧ ¬ O b := fun b u h => by
        obtain ⟨h1, h2, h3⟩ := sf.new b u h
        refine ⟨h1, fun z => ?_⟩
        rcases h3 with h3 | h3
        · exact (tin b u h3).2.1 z
        · exact r1.al b z h3
      have dv : DvL O H2 ws L := by
        have q := sf.val
        rw [List.take_length] at q
        exact L2.Paired.mapP q fun v d h => dv_up h tk
      exact im _ n _ _ ((k1.trans k2).trans r3.1) r3.2 (Dv.mkL upd_same (fun y => r2.al _ y na) (DvL.later (later_new na) dv)) q1
end
end Dl
/-! A generator that walks another one. -/
namespace Gf
open PySem PySem.Spec PyProof.Rows L2 GenW Gd
theorem asleepF {α : Type} {M : Model} {A : Around} {t : Sem α} {Q : α → Shared → Prop} {E : Value → Shared → Prop} {s : Shared} (hb : AllBare s.gens) (h : wpAny M A t Q E (rg s (s.gens.map dead))) :
    wpAny M A t (fun a s' => ∃ D, Q a (rg s' D) ∧ (AllBare D → AllBare s'.gens) ∧ Kg (Gf.slp s.gens) s.gens s'.gens ∧ ∀ (i : Nat) c, D[i]? = some (.fresh c) → s'.gens[i]? = some (.fresh c)) (fun e s' => ∃ D, E e (rg s' D)) s := fun Γ p hΓ =>
  Sem.wp_mono M Γ t (fun a p' s' ⟨D, q, tw, k⟩ => ⟨D, q, fun hD => bare_back hb hD tw k, k, fun i c e => (tw.awake e fun _ _ _ _ _ z => by cases z).2⟩) (fun e p' s' ⟨D, q, tw, k⟩ => ⟨D, q⟩) p s (wp_sim M Γ t _ _ p (rg s (s.gens.map dead)) s.gens (twin s.gens) (h Γ p hΓ))
theorem Made.rg {P : Program} {w : World} {base : Heap} {k : Nat} {outer : List Env} {T : Hp} {L : List PyData} {sc s1 : Shared} {u : Value} {D : Array GenState} (h : Made P w base k outer T L sc u (Gf.rg s1 D)) (hb : AllBare D → AllBare s1.gens) (hf : ∀ (i : Nat) c, D[i]? = some (.fresh c) → s1.gens[i]? = some (.fresh c)) : Made P w base k outer T L sc u s1 := by
  obtain ⟨φ, n, c, na, en, eu, es, lt, frl, ig, hx, os, bare, kp, ha0, hgo, ngo, wk⟩ := h
  exact ⟨φ, n, c, na, en, eu, es, lt, frl, ig, hf n c hx, os, hb bare, kp, ha0, hgo, ngo, fun A hr hfr s2 z => wk A hr hfr s2 ⟨z.os, z.bare, z.keep, z.tup, z.bs, z.funs, fun i hi => (List.not_mem_nil hi).elim, z.run⟩⟩
/-- the numbers as they stand -/
def zsAt (l : List Nat) (G : Array GenState) : List (Nat × GenState) := l.filterMap fun i => (G[i]?).map fun x => (i, x)
theorem zsAt_mem {l : List Nat} {G : Array GenState} {p : Nat × GenState} : p ∈ zsAt l G ↔ p.1 ∈ l ∧ G[p.1]? = some p.2 := by
  unfold zsAt
  rw [List.mem_filterMap]
  constructor
  · rintro ⟨i, hi, e⟩
    cases q : G[i]? with
    | none => rw [q] at e; cases e
    | some x =>
      rw [q] at e
      cases e
      exact ⟨hi, q⟩
  · rintro ⟨h1, h2⟩
    exact ⟨p.1, h1, by rw [h2]; rfl⟩
def yForY (ty : TYen) (g : TG) (tb : TGy) : TGy := fun D r σ H => ty σ H fun T L H1 => ∃ Pv : Nat → Hp → List PyData → L2.St → Hp → Prop, Pv 0 T r σ H1 ∧ (∀ i T r σ H, Pv i T r σ H → ∀ b u, T b = some u → H b = some u) ∧
  (∀ (i : Nat) (d : PyData) (T : Hp) (r : List PyData) (σ : L2.St) (H T' : Hp) (x : V), L[i]? = some d → Pv i T r σ H → Nw T T' H → Dv (fun _ => False) T' x d →
    g x σ (mrg H T') fun σ2 H2 => tb { D with nx := fun r' σ' H' => Pv (i + 1) T' r' σ' (strcOf H'), ct := fun r' σ' H' => Pv (i + 1) T' r' σ' (strcOf H'), bk := D.nx } r σ2 H2) ∧
  ∀ (T : Hp) (r : List PyData) (σ : L2.St) (H T' : Hp), Pv L.length T r σ H → Nw T T' H → D.nx r σ (mrg H T')
section
variable {φ ψ : Fx} {g gi : Gh} {s0 s : Shared} {ip : List (Addr × Obj)} {zs : List (Nat × GenState)} {σ : L2.St} {H : Hp} {n i : Nat} {L : List PyData} {B : Around}
/-- where it stands beside the one that it walks -/
structure Both (φ ψ : Fx) (n : Nat) (L : List PyData) (B : Around) (ip : List (Addr × Obj)) (zs : List (Nat × GenState)) (i : Nat) (g gi : Gh) (s0 : Shared) (σ : L2.St) (H : Hp) (s : Shared) (j : Ix) : Prop where
  st : Stand (φ.cx j) ip ψ n L B i gi σ H s
  jn : Jn φ g s0 j
  ap : ∀ p ∈ j.pn, ∀ q ∈ ip, p.1 ≠ q.1
  ge : ∀ q ∈ ip, φ.a0 ≤ q.1
  hl : Hl s0 s
  gn : Gn φ g s0 zs s
  le : φ.a0 ≤ ψ.a0
  ns : ∀ m, (m = n ∨ m ∈ gi.gs) → (m ∈ g.gs ∨ ¬ Gf.slp s0.gens m) ∧ ∀ p ∈ zs, p.1 ≠ m
theorem Gn.item {s4 : Shared} (G : Gn φ g s0 zs s) (ns : ∀ m, (m = n ∨ m ∈ gi.gs) → (m ∈ g.gs ∨ ¬ Gf.slp s0.gens m) ∧ ∀ p ∈ zs, p.1 ≠ m) (kz : ∀ i, Gf.slp s.gens i → i ≠ n → i ∉ gi.gs → s4.gens[i]? = s.gens[i]?) (kr : ∀ i : Nat, s.gens[i]? = some .running → s4.gens[i]? = some .running) : Gn φ g s0 zs s4 := by
  refine ⟨fun p hp => ?_, kr _ G.rn, fun i h h2 => ?_, fun i h => kr i (G.gr i h)⟩
  · obtain ⟨z1, z2, z3⟩ := G.zz p hp
    have e := kz p.1 z2 ((ns n (.inl rfl)).2 p hp) fun w => (ns p.1 (.inr w)).2 p hp rfl
    exact ⟨e.trans z1, slp_eq z2 e, z3⟩
  · have e := G.gz i h h2
    refine (kz i (slp_eq h e) (fun w => ?_) fun w => ?_).trans e
    · subst w
      rcases (ns i (.inl rfl)).1 with q | q
      · exact h2 q
      · exact q h
    · rcases (ns i (.inr w)).1 with q | q
      · exact h2 q
      · exact q h
theorem y_forY {k : Nat} {tg iter : Expr} {body : List Stmt} {ty : TYen} {gt : TG} {tb : TGy} {pos : Pos} (ok : FxOk φ) (hi : ∀ j, PYen (φ.cx j) k iter ty) (hr : Room (k + 1) (φ.A.deeper φ.env)) (hg : ∀ j, PG (φ.cx j) tg gt) (hb : YSs φ body tb) (hs : ∀ x, foldedSetIterable iter φ.env x = pure x := by intro _; rfl) :
    YS φ (.For tg iter body [] pos) (yForY ty gt tb) := by
  refine ⟨fun ip zs c fs K J gd lv D a kk r g s0 s σ H on q => ?_⟩
  obtain ⟨j, I, hj, ha, hip, hl, gn⟩ := on
  rw [exec_For]
  show SgF φ r g s0 c (.at pos fun _ => (eval iter φ.env >>= fun x0 => (foldedSetIterable iter φ.env x0 >>= fun x => (standAt iter.pos >>= fun _ => (holding [x] (pyIter x) >>= fun it => runOwn (.forLoop tg it body [] φ.env) φ.env)))).wrap K J gd lv) fs s
  refine sg_at (sg_bw ?_)
  rw [a.over]
  refine hmono (asleepF I.bare ((hi j).run ip _ σ H _ (inv_dd I) q)) (fun v s1 l1 h1 => ?_) fun _ _ ⟨_, z⟩ => z.elim
  obtain ⟨G, ⟨H1, sc, T, L, I1, made, hT, Pv, h0, hk, step, fin⟩, hbb, kg, hf⟩ := h1
  have made := Made.rg made hbb hf
  rw [hs v]
  show SgF φ r g s0 c (.at iter.pos fun _ => ((holding [v] (pyIter v) >>= fun it => runOwn (.forLoop tg it body [] φ.env) φ.env)).wrap K J gd lv) fs s1
  obtain ⟨ψ, n, rfl, ea, S, old, hsz, hz, cf, hcf⟩ := made.stand I1 hT (B := (φ.A.deeper φ.env).in1) (Room.in1' hr) (show (φ.A.deeper φ.env).frames = _ from I.ok.frames)
  have hroom : (φ.A.deeper φ.env).depth < recursionLimit := by have := hr.dp; omega
  refine sg_at (sg_bw (wpAny_holding ?_))
  rw [a.over]
  refine wpAny_pyIter_gen S.isGen ?_
  unfold runOwn
  refine sg_call fun p => ?_
  have al := fun (kk : Result → Sem PySem.Fin) => at_loop (k := kk) (c' := .forLoop tg (.ref ψ.go.1) body [] φ.env) (l := lv []) (kp := []) (p := p) a rfl rfl
  have le : φ.a0 ≤ ψ.a0 := by rw [← hj.sz]; exact hsz
  have gn1 := gn.step kg
  have nfr : ∀ m, (m = n ∨ m ∈ ([] : List Nat)) → (m ∈ g.gs ∨ ¬ Gf.slp s0.gens m) ∧ ∀ p ∈ zs, p.1 ≠ m := fun m hm => by
    rcases hm with rfl | hm
    · have ns1 : ¬ Gf.slp s1.gens m := fun ⟨k', l', c2, p', fs', cl', z⟩ => by
        rw [hcf] at z
        cases z
      exact ⟨Classical.or_iff_not_imp_left.mpr fun gm z => ns1 (slp_eq z (gn1.gz m z gm)), fun p hp e => ns1 (e ▸ (gn1.zz p hp).2.1)⟩
    · exact (List.not_mem_nil hm).elim
  have loop : ∀ (m i : Nat) (r : List PyData) (g gi : Gh) (s0 s : Shared) (σ : L2.St) (H : Hp) (j : Ix), m + i = L.length → Both φ ψ n L (φ.A.deeper φ.env).in1 ip zs i g gi s0 σ H s j → Pv i gi.T r σ H →
      SgF φ r g s0 (.forLoop tg (.ref ψ.go.1) body [] φ.env) ((model φ.P φ.w).den (.forLoop tg (.ref ψ.go.1) body [] φ.env))
        (.ret (fun r => ((match r with | .ok f => (.pure f : Sem Flow) | .error e => .raise e).onRaise (cameBack φ.env)).wrap K J gd lv) none (gd false) (lv []) c p [] :: fs) s := by
    intro m
    induction m with
    | zero =>
      intro i r g gi s0 s σ H j hm b pv
      obtain rfl : i = L.length := by omega
      show Sg _ _ _ _ _ _ _ ((forTurn tg (.ref ψ.go.1) body [] φ.env).onRaise (fun x => do noteFrame x φ.env; theTreesLotGoes x)) _ s
      unfold forTurn
      rw [Sem.onRaise_eq_wrap]
      refine sg_bw (wpAny_standAt (sg_bw (wpAny_onRaise ?_)))
      rw [(al _).over]
      refine hmono (b.st.done (A := φ.A.deeper φ.env) (Nat.le_refl _) hr.hd hroom (E := fun _ _ => False)) (fun r' s4 l4 h4 => ?_) fun _ _ z => z.elim
      obtain ⟨h4, T', up, nw, I4, kz, kr⟩ := h4
      subst h4
      refine sg_again rfl ?_
      show Sg _ _ _ _ _ _ _ (((execs [] φ.env).onRaise (fun x => do noteFrame x φ.env; theTreesLotGoes x)) >>= fun f => pure (Fin.done f)) _ s4
      exact sg_leaf (.ok .next) (kk r g s0 s4 .next ⟨σ, _, ⟨j, I4, b.jn, b.ap, b.ge, b.hl.trans l4, b.gn.item b.ns kz kr⟩, fin _ _ _ _ _ pv ⟨up, nw⟩⟩)
    | succ m ih =>
      intro i r g gi s0 s σ H j hm b pv
      have hi : i < L.length := by omega
      have e := List.getElem?_eq_getElem hi
      show Sg _ _ _ _ _ _ _ ((forTurn tg (.ref ψ.go.1) body [] φ.env).onRaise (fun x => do noteFrame x φ.env; theTreesLotGoes x)) _ s
      unfold forTurn
      rw [Sem.onRaise_eq_wrap]
      refine sg_bw (wpAny_standAt (sg_bw (wpAny_onRaise ?_)))
      rw [(al _).over]
      refine hmono (b.st.item (A := φ.A.deeper φ.env) e hroom (E := fun _ _ => False)) (fun r' s4 l4 h4 => ?_) fun _ _ z => z.elim
      obtain ⟨u, x, g4, rfl, rv, dv, up, nw, S4, sl, kz, kr, kn⟩ := h4
      have gn4 := b.gn.item b.ns kz kr
      obtain ⟨nm, qn, gc, gdd, _⟩ := S4.god
      have old : ∀ m, Gf.slp s0.gens m → m ∉ g.gs → Gf.slp s.gens m := fun m h h2 => slp_eq h (b.gn.gz m h h2)
      have ns4 : ∀ m, (m = n ∨ m ∈ g4.gs) → (m ∈ g.gs ∨ ¬ Gf.slp s0.gens m) ∧ ∀ p ∈ zs, p.1 ≠ m := fun m hm => by
        rcases hm with hm | hm
        · exact b.ns m (.inl hm)
        · rcases kn m hm with q | q
          · exact b.ns m (.inr q)
          · exact ⟨Classical.or_iff_not_imp_left.mpr fun h2 h => q (old m h h2), fun p hp z => q (z ▸ (b.gn.zz p hp).2.1)⟩
      refine sg_bw ?_
      rw [(al _).over]
      refine go_of S4.go gc gdd (by decide +kernel) ?_
      refine sg_bw ?_
      rw [(al _).over]
      refine calm S4.inv.bare ((hg j).run (ip ++ pinsAt g4.fp s4.heap) _ σ _ x u _ (inv_dd S4.pinned) rv (step i L[i] gi.T r σ H g4.T x e pv ⟨up, nw⟩ dv)) fun _ s6 G6 l6 k6 hb6 h6 => ?_
      obtain ⟨σ6, H6, I6, q6⟩ := h6
      have I6 := invUp I6 hb6
      have gn6 := gn4.step k6
      have zz6 : ∀ p ∈ zsAt (n :: g4.gs) s4.gens, s6.gens[p.1]? = some p.2 ∧ Gf.slp s6.gens p.1 ∧ (p.1 ∈ g.gs ∨ ¬ Gf.slp s0.gens p.1) := fun p hp => by
        obtain ⟨h1, h2⟩ := zsAt_mem.mp hp
        have s4p : Gf.slp s4.gens p.1 := by
          rcases List.mem_cons.mp h1 with h | h
          · rw [h]; exact sl
          · exact S4.sg _ h
        exact ⟨(k6.1 _ s4p).trans h2, slp_eq s4p (k6.1 _ s4p), (ns4 p.1 (List.mem_cons.mp h1)).1⟩
      have apb : ∀ b' ∈ g4.fp, φ.a0 ≤ b' := fun b' hb' => Nat.le_trans b.le (S4.con.ge b' hb')
      rw [Sem.bind_eq_wrap', Sem.wrap_wrap]
      refine hb.run (ip ++ pinsAt g4.fp s4.heap) (zsAt (n :: g4.gs) s4.gens ++ zs) _ _ _ _ _ _ { D with nx := fun r' σ' H' => Pv (i + 1) g4.T r' σ' (strcOf H'), ct := fun r' σ' H' => Pv (i + 1) g4.T r' σ' (strcOf H'), bk := D.nx } ⟨(al _).over, (al _).split, (al _).guard, rfl⟩ (fun r7 g7 s07 s7 f hf => ?_) r g s0 s6 σ6 H6
        ⟨j, I6, b.jn, fun p hp q hq => ?_, fun q hq => ?_, (b.hl.trans l4).trans l6, ⟨fun p hp => ?_, gn6.rn, gn6.gz, gn6.gr⟩⟩ q6
      · have again : ∀ {σ7 : L2.St} {H7 : Hp}, On φ g7 s07 (ip ++ pinsAt g4.fp s4.heap) (zsAt (n :: g4.gs) s4.gens ++ zs) σ7 H7 s7 → Pv (i + 1) g4.T r7 σ7 (strcOf H7) → ∃ j7, Both φ ψ n L (φ.A.deeper φ.env).in1 ip zs (i + 1) g7 g4 s07 σ7 (strcOf H7) s7 j7 := fun {σ7 H7} on7 p7 => by
          obtain ⟨j7, I7, hj7, ha7, hi7, hl7, gn7⟩ := on7
          have pk : ∀ b' ∈ g4.fp, ∀ o, s4.heap.get? b' = some o → s7.heap.get? b' = some o ∧ H7 b' = none := fun b' hb' o e =>
            let z := I7.pin (b', o) (List.mem_append_right _ (List.mem_append_right _ (mem_pinsAt hb' e))); ⟨z.1, z.2.1⟩
          have zz7 : ∀ m, (m = n ∨ m ∈ g4.gs) → s7.gens[m]? = s4.gens[m]? ∧ Gf.slp s7.gens m ∧ (m ∈ g7.gs ∨ ¬ Gf.slp s07.gens m) := fun m hm => by
            have s4m : Gf.slp s4.gens m := by
              rcases hm with h | h
              · rw [h]; exact sl
              · exact S4.sg _ h
            obtain ⟨k', l', c', p', fs', cl', z⟩ := id s4m
            have := gn7.zz (m, _) (List.mem_append_left _ (zsAt_mem.mpr ⟨List.mem_cons.mpr hm, z⟩))
            exact ⟨this.1.trans z.symm, this.2⟩
          have I8 := inv_strc (I7.unpinned) hj7
          have os : s7.os = s4.os := (I7.os.trans (hj7.os.trans hj7.oo)).trans (S4.inv.os.trans (b.jn.os.trans b.jn.oo)).symm
          refine ⟨j7, ⟨I8, S4.na, S4.base, (pk _ S4.gof _ S4.go).1, S4.god, ?_, ⟨S4.con.st, S4.con.hP, S4.con.hw, hk _ _ _ _ _ p7, fun b' hb' => ?_, S4.con.ge, fun b' hb' => ?_, fun x c e => (ok.nocell e).elim, fun b' u o e' l ho => ?_, fun b' l1 l2 _ _ => ?_, S4.con.fr, S4.con.tt⟩, S4.num, fun m hm => (zz7 m (.inr hm)).2.1, S4.nn, S4.gof⟩, hj7, fun p hp q hq => ha7 p hp q (List.mem_append_left _ hq), fun q hq => hi7 q (List.mem_append_left _ hq), hl7, ⟨fun p hp => gn7.zz p (List.mem_append_right _ hp), gn7.rn, gn7.gz, gn7.gr⟩, b.le, fun m hm => ⟨(zz7 m hm).2.2, (ns4 m hm).2⟩⟩
          · obtain ⟨x', hx', go'⟩ := S4.gen
            exact ⟨x', (zz7 n (.inl rfl)).1.trans hx', fun s2 z => go' s2 ⟨z.os.trans os, z.bare, fun b' hb' o e' => z.keep b' hb' o (pk b' hb' o e').1, z.tup, z.bs, z.funs, fun m hm => (z.gs m hm).trans (zz7 m (.inr hm)).1, z.run⟩⟩
          · obtain ⟨o, e', _⟩ := S4.con.obj b' hb'
            obtain ⟨f1, f2, f3, f4, f5, f6⟩ := S4.con.fp b' hb'
            refine ⟨strcOf_none (pk b' hb' o e').2, f2, f3, .inr ?_, fun x c e => (ok.nocell e).elim, fun p hp => ?_⟩
            · show j7.s.heap.objs.size ≤ b'
              rw [hj7.sz]
              exact apb b' hb'
            · rcases List.mem_append.mp hp with h | h
              · exact ha7 p h (b', o) (List.mem_append_right _ (mem_pinsAt hb' e'))
              · exact f6 p (List.mem_append_right _ h)
          · obtain ⟨o, e', kc⟩ := S4.con.obj b' hb'
            exact ⟨o, (pk b' hb' o e').1, kc⟩
          · exact ObjOk.noCell (I8.hok b' u e') (strcOf_of e').2 ho
          · have l2 : b' < j7.s.heap.objs.size := l2
            rw [hj7.sz] at l2
            exact absurd (Nat.lt_of_lt_of_le l2 (Nat.le_trans b.le l1)) (Nat.lt_irrefl _)
        have less : ∀ {σ7 : L2.St} {H7 : Hp}, On φ g7 s07 (ip ++ pinsAt g4.fp s4.heap) (zsAt (n :: g4.gs) s4.gens ++ zs) σ7 H7 s7 → On φ g7 s07 ip zs σ7 H7 s7 := fun {σ7 H7} ⟨j7, I7, hj7, ha7, hi7, hl7, gn7⟩ =>
          ⟨j7, I7.unpinned, hj7, fun p hp q hq => ha7 p hp q (List.mem_append_left _ hq), fun q hq => hi7 q (List.mem_append_left _ hq), hl7, ⟨fun p hp => gn7.zz p (List.mem_append_right _ hp), gn7.rn, gn7.gz, gn7.gr⟩⟩
        cases f with
        | next =>
          obtain ⟨σ7, H7, on7, n7⟩ := hf
          obtain ⟨j7, b7⟩ := again on7 n7
          exact sg_again rfl (ih (i + 1) r7 g7 g4 s07 s7 σ7 _ j7 (by omega) b7 n7)
        | cont =>
          obtain ⟨σ7, H7, on7, n7⟩ := hf
          obtain ⟨j7, b7⟩ := again on7 n7
          exact sg_again rfl (ih (i + 1) r7 g7 g4 s07 s7 σ7 _ j7 (by omega) b7 n7)
        | brk =>
          obtain ⟨σ7, H7, on7, n7⟩ := hf
          exact sg_leaf (.ok .next) (kk r7 g7 s07 s7 .next ⟨σ7, H7, less on7, n7⟩)
        | ret v =>
          obtain ⟨x7, σ7, H7, on7, r7', n7⟩ := hf
          exact sg_leaf (.ok (.ret v)) (kk r7 g7 s07 s7 (.ret v) ⟨x7, σ7, H7, less on7, r7', n7⟩)
      · rcases List.mem_append.mp hq with h | h
        · exact b.ap p hp q h
        · exact fun z => (S4.con.fp q.1 (of_pinsAt h).1).2.2.2.2.2 p (List.mem_append_left _ hp) z
      · rcases List.mem_append.mp hq with h | h
        · exact b.ge q h
        · exact apb q.1 (of_pinsAt h).1
      · rcases List.mem_append.mp hp with h | h
        · exact zz6 p h
        · exact gn6.zz p h
  exact loop L.length 0 r g _ s0 s1 σ H1 j rfl ⟨S, hj, ha, hip, hl.trans l1, gn1, le, nfr⟩ h0
end
end Gf
namespace Dl
open PySem PySem.Spec PyProof.Rows L2 Gd GenW Gf
section
variable {φ : Fx}
def wForL0 (tg : Tg) (tb : TYd) (D : YDE) : List PyData → List PyData → En → Prop
  | [], r, E => D.nx r E
  | x :: xs, r, E => opt (tg.put x E.ρ) fun ρ => tb { nx := wForL0 tg tb D xs, ct := wForL0 tg tb D xs, bk := D.nx } r ⟨ρ, E.n⟩
structure wForL (tg : Tg) (tb : TYd) (D : YDE) (xs r : List PyData) (E : En) : Prop where
  h : wForL0 tg tb D xs r E
def wForY (C : ConY) (m : Nat) (ts : TDa) (tg : Tg) (tb : TYd) : TYd := fun D r E => ts E fun as n => ∃ ds L, as = ds.map Ar.d ∧ as.length = m ∧ (∀ d ∈ ds, fltD d = true) ∧ C ds L ∧ wForL tg tb D L r ⟨E.ρ, n⟩
open Classical in
theorem w_forY {T0 : Hp} {k m : Nat} {f : Addr} {fd : FuncData} {ps : List Str} {C : ConY} {x : Str} {p pos1 pos : Pos} {e target : Expr} {es : List Expr} {ts : TDa} {tg : Tg} {tb : TYd} {body : List Stmt} (ok : FxOk φ) (hT0 : ∀ b u, T0 b = some u → ∃ xs, u = .tup xs) (F : GFnY φ.P φ.w φ.K φ.mg φ.base k f fd ps (spYD C m)) (hr : Room (k + 1) (φ.A.deeper φ.env)) (hm : φ.mg x = some (.ref f)) (hk : PySem.W.keepIn φ.K (.ref f) = true) (hb : Binds φ.K fd ps [])
    (ha : ∀ j, PR (φ.cx j) (G0 T0) (e :: es) ts) (ht : ∀ j, PG (φ.cx j) target (tg.g φ.K)) (hbd : PGYs φ (G0 T0) body tb) (hg : ∀ j, Gl (φ.cx j) x := by intro _; rfl) (hdb : (x == ("__debug__" : Str)) = false := by decide) (he : starEach (e :: es) φ.env = (false, eval e φ.env) :: starEach es φ.env := by rfl) (hpl : (backTo pos1 (starEach es φ.env)).any (·.1) = false := by rfl)
    (hs : ∀ y, foldedSetIterable (.Call (.Name x p) (e :: es) [] pos1) φ.env y = pure y := by intro _; rfl) : PGY φ (G0 T0) (.For target (.Call (.Name x p) (e :: es) [] pos1) body [] pos) (wForY C m ts tg tb) :=
  YS.wk (y_forY ok (fun j => pyn_call (X := φ.cx j) F (hr.mono (by omega)) (hg j) hm hk hb (ha j) hdb he hpl) hr ht hbd hs) fun D r0 σ H ⟨O, E, Dd, r, k, z⟩ => by
    refine ⟨O, E, _, r, ?_, z⟩
    rintro as n vs H1 k1 i1 rv ⟨ds, L, rfl, hl, fl, c, q1⟩
    replace q1 := q1.h
    have r1 := r.step k1 i1
    have L1 := LaT.of (r.lt k1)
    have tin : ∀ b u, (if O b then none else tupOf H1 b) = some u → H1 b = some u ∧ ¬ O b ∧ ∃ xs, u = .tup xs := fun b u h => by
      split at h
      · cases h
      · rename_i no
        obtain ⟨xs, rfl, e⟩ := tupOf_tup h
        exact ⟨e, no, xs, rfl⟩
    refine ⟨fun b => if O b then none else tupOf H1 b, L, fun b v h => ⟨(tin b v h).1, (tin b v h).2.2⟩, ⟨rv.length.trans hl, fun b u h => (tin b u h).2.2, ds, ?_, c⟩,
      fun i T r2 σ2 H2 => ∃ O2 E2, LaT O H1 O2 H2 ∧ Rel (G0 T0) O2 σ2 H2 E2 ∧ (∀ b u, T b = some u → H2 b = some u ∧ ¬ O2 b) ∧ wForL0 tg tb Dd (L.drop i) r2 E2, ⟨O, _, .refl, r1, fun b u h => ⟨(tin b u h).1, (tin b u h).2.1⟩, by simpa using q1⟩, fun i T r2 σ2 H2 ⟨_, _, _, _, h, _⟩ b u e => (h b u e).1, ?_, ?_⟩
    · clear hl c q1 he hpl ha
      have key : ∀ {vs : List V} {ds : List PyData}, Paired (ArR O H1) vs (ds.map Ar.d) → (∀ d ∈ ds, fltD d = true) → Paired (Dv (fun _ => False) fun b => if O b then none else tupOf H1 b) vs ds := by
        intro vs ds
        induction ds generalizing vs with
        | nil => intro h _; cases h; exact .nil
        | cons d ds ih =>
          intro h hf
          cases h with
          | cons a t => exact .cons (dv_flt (show Dv O H1 _ d from a) (fun a xs h n => by rw [if_neg n]; exact tupOf_eq.mpr h) (hf d List.mem_cons_self)) (ih t fun x hx => hf x (List.mem_cons_of_mem _ hx))
      exact key rv fl
    · rintro i d T r2 σ2 H2 T' xv hd ⟨O2, E2, L2, rr2, tk, q2⟩ ⟨up, nw⟩ dv
      have hi := (List.getElem?_eq_some_iff.mp hd).1
      rw [List.drop_eq_getElem_cons hi, (List.getElem?_eq_some_iff.mp hd).2] at q2
      obtain ⟨ρ, ee, q3⟩ := opt_el q2
      have k3 : Kp (G0 T0).F.S H2 (mrg H2 T') := fun b u h _ => Stay.of (mrg_some h)
      have r3 : Rel (G0 T0) O2 σ2 (mrg H2 T') E2 := rr2.step k3 trivial
      have tk' : ∀ b u, T' b = some u → mrg H2 T' b = some u ∧ ¬ O2 b := fun b u h => by
        rcases (nw b u h).2 with h2 | h2
        · exact ⟨mrg_some (tk b u h2).1, (tk b u h2).2⟩
        · exact ⟨by rw [mrg_none h2]; exact h, fun z => rr2.al b z h2⟩
      have L3 : LaT O H1 O2 (mrg H2 T') := L2.trans (.of (rr2.lt k3))
      have again : ∀ O' σ' H' E' r', LaT O2 (mrg H2 T') O' H' → Rel (G0 T0) O' σ' H' E' → wForL0 tg tb Dd (L.drop (i + 1)) r' E' → ∃ O2 E2, LaT O H1 O2 (strcOf H') ∧ Rel (G0 T0) O2 σ' (strcOf H') E2 ∧ (∀ b u, T' b = some u → strcOf H' b = some u ∧ ¬ O2 b) ∧ wForL0 tg tb Dd (L.drop (i + 1)) r' E2 := fun O' σ' H' E' r' l rr q => by
        refine ⟨_, E', (L3.trans l).trans .strc, rr.strc hT0, fun b u h => ?_, q⟩
        obtain ⟨h1, h2⟩ := tk' b u h
        obtain ⟨xs, rfl⟩ := (nw b u h).1
        obtain ⟨h3, h4⟩ := l b xs h1 h2
        exact ⟨strcOf_eq h3 trivial, fun z => h4 z.1⟩
      refine Tg.ok tg r3 (dv_up dv tk') ee fun σ' r' _ => ⟨O2, _, { nx := wForL0 tg tb Dd (L.drop (i + 1)), ct := wForL0 tg tb Dd (L.drop (i + 1)), bk := Dd.nx }, r', ⟨again, fun O' σ' H' E' r' l rr q => k.nx O' σ' H' E' r' ((L1.trans L3).trans l) rr q, again⟩, q3⟩
    · rintro T r2 σ2 H2 T' ⟨O2, E2, L2, rr2, tk, q2⟩ ⟨up, nw⟩
      have k3 : Kp (G0 T0).F.S H2 (mrg H2 T') := fun b u h _ => Stay.of (mrg_some h)
      have r3 : Rel (G0 T0) O2 σ2 (mrg H2 T') E2 := rr2.step k3 trivial
      rw [List.drop_length] at q2
      exact k.nx O2 σ2 _ E2 r2 ((L1.trans L2).trans (.of (rr2.lt k3))) r3 q2
/-- a walk in a generator, by an invariant -/
theorem wfor_L {tg : Tg} {tb : TYd} {D : YDE} (xs : List PyData) (I : Nat → List PyData → En → Prop) {r : List PyData} {E : En} (h0 : I 0 r E)
    (step : ∀ (i : Nat) (x : PyData) (r : List PyData) (E : En) (D' : YDE), xs[i]? = some x → I i r E → (∀ r' E', I (i + 1) r' E' → D'.nx r' E') → D'.bk = D.nx → opt (tg.put x E.ρ) fun ρ => tb D' r ⟨ρ, E.n⟩)
    (fin : ∀ r E, I xs.length r E → D.nx r E) : wForL tg tb D xs r E := by
  have key : ∀ (k i : Nat) (r : List PyData) (E : En), i + k = xs.length → I i r E → wForL0 tg tb D (xs.drop i) r E := by
    intro k
    induction k with
    | zero =>
      intro i r E hi h
      rw [List.drop_eq_nil_of_le (by omega)]
      exact fin r E (by rw [← hi]; exact h)
    | succ k ih =>
      intro i r E hi h
      have hl : i < xs.length := by omega
      rw [List.drop_eq_getElem_cons hl]
      exact step i xs[i] r E _ (List.getElem?_eq_getElem hl) h (fun r' E' h' => ih (i + 1) r' E' (by omega) h') rfl
  exact ⟨by simpa using key xs.length 0 r E (by omega) h0⟩
end
end Dl
/-! comprehensions over such a generator. -/
namespace Gf
open PySem PySem.Spec PyProof.Rows L2 GenW Gd
def youngs (a n : Nat) : List Addr := List.range' a (n - a)
theorem mem_youngs {a n b : Nat} (h : a ≤ n) : b ∈ youngs a n ↔ a ≤ b ∧ b < n := by
  unfold youngs
  rw [List.mem_range'_1]
  omega
abbrev cenvOf (X : Cx) (s : Shared) (scope : Scope) : Env := compEnvC scope (cellsFrom (s.heap.objs.size + 1) scope.names (cloFrom X.env.cells scope.names [])) s.heap.objs.size X.env
abbrev pushO (s : Shared) (o : Obj) : Shared := { s with heap := s.heap.push o }
abbrev blkS (s : Shared) (scope : Scope) : Shared := { s with heap := pushCells (s.heap.push { cls := .type "dict", data := .dict #[] }) scope.names }
theorem Made.blk {X : Cx} {k : Nat} {T : Hp} {L : List PyData} {sc s1 : Shared} {u : Value} {pins : List (Addr × Obj)} {σ : L2.St} {H : Hp} {scope : Scope} {own : List (Str × Nat)} {o : Obj} {w : HO}
    (h : Made X.prog X.w X.base k X.stack T L sc u s1) (I : Inv X pins σ H sc) (hT : ∀ b v, T b = some v → H b = some v ∧ ∃ xs, v = .tup xs) {B : Around} (hr : Room k B) (hBf : B.frames = some X.stack)
    (ok : BlkOk X.N X.env.scope scope own) (hN : X.N.Nodup) (hnc : ∀ y ∈ scope.names, y.2 ≠ .cell) (no : NoCell o) (nf : o.isFreed = false) (hw : Strc w) (lay : ∀ s, Inv X pins σ H s → Inv X pins σ (upd H s.heap.objs.size w) (pushO s o)) :
    ∃ φ n, u = .ref φ.go.1 ∧ s1.heap.IsGen φ.go.1 n ∧ H s1.heap.objs.size = none ∧ Inv X pins σ (upd H s1.heap.objs.size w) (pushO s1 o) ∧
      (∀ b ∈ youngs φ.a0 s1.heap.objs.size, FpOk X pins (upd H s1.heap.objs.size w) b ∧ b < (pushO s1 o).heap.objs.size) ∧ (∀ b, H b ≠ none → b < φ.a0) ∧ φ.a0 ≤ s1.heap.objs.size ∧
      (∀ b, φ.a0 ≤ b → (∀ o u, (upd H s1.heap.objs.size w) b ≠ some (.frz o u)) ∧ ∀ ps, (upd H s1.heap.objs.size w) b ≠ some (.tbl ps)) ∧
      Stand (X.blk (pushO s1 o) (upd H s1.heap.objs.size w) scope (cenvOf X (pushO s1 o) scope) (youngs φ.a0 s1.heap.objs.size)) [] φ n L B 0 ⟨T, [φ.a0, φ.go.1], []⟩ (wipe σ (own.map (·.2))) (upd H s1.heap.objs.size w) (blkS (pushO s1 o) scope) := by
  obtain ⟨φ, n, rfl, ea, S0, old, hsz, hz, _⟩ := h.stand I hT hr hBf
  have nD : H s1.heap.objs.size = none := S0.inv.hok.fresh (Nat.le_refl _)
  have I3 := lay _ S0.inv
  have at0 : ∀ b ∈ [φ.a0, φ.go.1], b < s1.heap.objs.size := fun b hb => by
    obtain ⟨o, e, _⟩ := S0.con.obj b hb
    exact Heap.lt_size e
  have le0 : φ.a0 ≤ s1.heap.objs.size := Nat.le_of_lt (at0 _ List.mem_cons_self)
  have yg : ∀ b ∈ youngs φ.a0 s1.heap.objs.size, FpOk X pins (upd H s1.heap.objs.size w) b ∧ b < (pushO s1 o).heap.objs.size := fun b hb => by
    obtain ⟨h1, h2⟩ := (mem_youngs le0).mp hb
    have nb : H b = none := by
      cases e : H b with
      | none => rfl
      | some v => exact absurd (Nat.lt_of_lt_of_le (old b (by rw [e]; exact fun z => by cases z)) h1) (Nat.lt_irrefl _)
    refine ⟨⟨?_, (I.fpOk (b := b) (H' := H) (by rw [← ea]; exact h1) nb).2⟩, by show b < (s1.heap.push o).objs.size; rw [Heap.size_push]; exact Nat.lt_succ_of_lt h2⟩
    rw [upd_ne (Nat.ne_of_lt h2)]
    exact nb
  have I4 := block_start I3 ok hN yg
  have kp1 : ∀ b q, s1.heap.get? b = some q → (s1.heap.push o).get? b = some q := fun b q e => Heap.get?_push_of_some _ e
  have kp : ∀ b q, (s1.heap.push o).get? b = some q → (blkS (pushO s1 o) scope).heap.get? b = some q := fun b q e => pushCells_keeps _ _ _ _ (Heap.get?_push_of_some _ e)
  have kk : ∀ b q, s1.heap.get? b = some q → (blkS (pushO s1 o) scope).heap.get? b = some q := fun b q e => kp b q (kp1 b q e)
  have iD : ∀ b v, (upd H s1.heap.objs.size w) b = some v → φ.a0 ≤ b → b = s1.heap.objs.size ∧ v = w := fun b v e l => by
    by_cases q : b = s1.heap.objs.size
    · rw [q, upd_same] at e
      exact ⟨q, (Option.some.inj e).symm⟩
    · rw [upd_ne q] at e
      exact absurd (Nat.lt_of_lt_of_le (old b (by rw [e]; exact fun z => by cases z)) l) (Nat.lt_irrefl _)
  refine ⟨φ, n, rfl, S0.isGen, nD, I3, yg, old, le0, fun b l => ⟨fun o u e => ?_, fun ps e => ?_⟩, I4, S0.na, S0.base, kk _ _ S0.go, S0.god, ?_, ⟨S0.con.st, S0.con.hP, S0.con.hw, fun b v e => ?_, fun b hb => ?_, S0.con.ge, fun b hb => ?_, fun x c e => ?_, fun b v q e l ho => ?_, fun b l1 l2 nx => ?_, S0.con.fr, S0.con.tt⟩, S0.num, S0.sg, S0.nn, S0.gof⟩
  · obtain ⟨_, rfl⟩ := iD b _ e l
    exact hw.elim
  · obtain ⟨_, rfl⟩ := iD b _ e l
    exact hw.elim
  · obtain ⟨x, hx, go⟩ := S0.gen
    exact ⟨x, hx, fun s2 z => go s2 ⟨z.os, z.bare, fun b hb o e => z.keep b hb o (kk b o e), z.tup, z.bs, z.funs, z.gs, z.run⟩⟩
  · have q := S0.con.T b v e
    rw [upd_ne (ne_of_none q nD)]
    exact q
  · have hy : b ∈ youngs φ.a0 s1.heap.objs.size := (mem_youngs le0).mpr ⟨S0.con.ge b hb, at0 b hb⟩
    exact ⟨(yg b hy).1.1, (I4.ok.exf b hy).1, I4.ok.exfs b hy, .inl hy, fun x c e => (I4.ok.exf b hy).2 x c e, fun p hp => absurd (show p ∈ ([] : List (Addr × Obj)) ++ [] from hp) (by simp)⟩
  · obtain ⟨q, e, c⟩ := S0.con.obj b hb
    exact ⟨q, kk _ _ e, c⟩
  · have e : (cellsFrom ((pushO s1 o).heap.objs.size + 1) scope.names (cloFrom X.env.cells scope.names [])).lookup x = some c := e
    have e : (cellsFrom ((pushO s1 o).heap.push { cls := .type "dict", data := .dict #[] }).objs.size scope.names (cloFrom X.env.cells scope.names [])).lookup x = some c := by rw [Heap.size_push]; exact e
    rcases cells_mem (PySem.mem_of_lookup e) with hm | ⟨h1, _, _⟩
    · rcases cloFrom_mem hm with hm | ⟨h1, rfl⟩
      · cases hm
      · have hf : ∃ c, X.env.cells.lookup x = some c := by
          rcases ok.free _ h1 rfl with k | k
          · exact I.ok.has _ (.inl k)
          · exact I.ok.has _ (.inr k)
        obtain ⟨c, hc⟩ := hf
        rw [hc]
        exact S0.con.cl x c hc
    · exact (hnc _ h1 rfl).elim
  · obtain ⟨rfl, rfl⟩ := iD b _ e l
    have : (blkS (pushO s1 o) scope).heap.get? s1.heap.objs.size = some o := kp _ _ (Heap.get?_push_size _ nf)
    rw [this] at ho
    cases ho
    exact no
  · have l2 : b < (s1.heap.push o).objs.size := l2
    rw [Heap.size_push] at l2
    have : b = s1.heap.objs.size := by
      rcases Nat.lt_or_ge b s1.heap.objs.size with q | q
      · exact (nx ((mem_youngs le0).mpr ⟨l1, q⟩)).elim
      · exact Nat.le_antisymm (Nat.le_of_lt_succ l2) q
    rw [this, upd_same]
    exact fun z => by cases z
section
variable {X : Cx} {k : Nat}
/-- [elt for target in g(..) if ..] -/
def tLcY (ty : TYen) (g : TG) (tt : TT) (te : TE) (vs : List Nat) : TE := fun σ H Q => ty σ H fun T L H1 => ∀ D, H1 D = none → ∃ Pv : Nat → Hp → Hp → Prop, Pv 0 T (upd H1 D (.lst [])) ∧ (∀ i T H, Pv i T H → (∀ b u, T b = some u → H b = some u) ∧ ∃ ws, H D = some (.lst ws)) ∧
  (∀ (i : Nat) (d : PyData) (T H T' : Hp) (x : V), L[i]? = some d → Pv i T H → Nw T T' H → Dv (fun _ => False) T' x d → g x (wipe σ vs) (mrg H T') fun σ2 H2 => wipe σ2 vs = wipe σ vs ∧ tt σ2 H2 fun b H3 =>
    if b = true then te σ2 H3 fun y H4 => ∃ acc, H4 D = some (.lst acc) ∧ acc.length < sizeLine ∧ ∀ H'', Fg H1 (upd H4 D (.lst (acc ++ [y]))) H'' → Pv (i + 1) T' H'' else ∀ H'', Fg H1 H3 H'' → Pv (i + 1) T' H'') ∧
  ∀ (T H T' : Hp), Pv L.length T H → Nw T T' H → Q (.ref D) (mrg H T')
theorem app_ok' {X : Cx} {pins : List (Addr × Obj)} {σ : L2.St} {H : Hp} {s : Shared} {E : Value → Shared → Prop} {D : Addr} {xs : List V} {y : V} {v : Value} {Q : Value → Shared → Prop} (I : Inv X pins σ H s) (hD : H D = some (.lst xs)) (hz : xs.length < sizeLine) (r : RelV y v)
    (h : ∀ s', Inv X pins σ (upd H D (.lst (xs ++ [y]))) s' → s'.gens = s.gens → Q .none s') : wpAny (model X.prog X.w) X.A (call (.builtin "list.append") [.ref D, v]) Q E s := by
  obtain ⟨hz', its, n, ri, e⟩ := I.hok D _ hD
  have hl := ri.length
  refine append_at (hsz := by rw [List.size_toArray]; omega) e fun h' sb ho' => ?_
  refine h { s with heap := h' } (I.write (t' := s.toks) (by rw [hD]; trivial) (.inl rfl) (fun b u hb q => (sb.2 b hb).trans q) ⟨_, ho'⟩ ⟨by rw [List.length_append]; exact hz, its ++ [v], n + 1, ri.append (.cons r .nil), ?_⟩) rfl
  rw [ho']
  simp
theorem lcY_core {pins : List (Addr × Obj)} {s : Shared} {σ : L2.St} {H : Hp} {Q : VK} {elt tg iter : Expr} {ifs : List Expr} {scope : Scope} {own : List (Str × Nat)} {pos pos' : Pos} {ty : TYen} {g : TG} {tt : TT} {te : TE} {use : Option (Value → Sem Unit)} {Qf : Value → Shared → Prop}
    (hN : X.N.Nodup) (I : Inv X pins σ H s) (hi : PYen X k iter ty) (hr : Room (k + 1) X.A) (ok : BlkOk X.N X.env.scope scope own) (hnc : ∀ y ∈ scope.names, y.2 ≠ .cell)
    (hg : ∀ (s : Shared) (H : Hp) (C : Addr) (cl : List (Str × Addr)) (fp : List Addr), PG (X.blk s H scope (compEnvC scope cl C X.env) fp) tg g) (ht : ∀ (s : Shared) (H : Hp) (C : Addr) (cl : List (Str × Addr)) (fp : List Addr), PTs (X.blk s H scope (compEnvC scope cl C X.env) fp) ifs tt)
    (he : ∀ (s : Shared) (H : Hp) (C : Addr) (cl : List (Str × Addr)) (fp : List Addr), PE (X.blk s H scope (compEnvC scope cl C X.env) fp) elt te) (hs : ∀ x, foldedSetIterable iter X.env x = pure x)
    (h : tLcY ty g tt te (own.map (·.2)) σ H Q)
    (hRR : ∀ D C s' m H', Inv X pins σ H' s' → Q (.ref D) H' → s'.heap.Ns C m → FpOk X pins H' C → compPost (model X.prog X.w) X.A X.xe use Qf (.ref D) C (.ok .next) s') :
    wpAny (model X.prog X.w) X.A (comprehension (.ListComp elt [⟨tg, iter, ifs, 0⟩] scope pos) scope X.env pos' (newList []) false (eval iter X.env) use) Qf X.xe s := by
  have hfree : ∀ y ∈ scope.names, y.2 = .free → ∃ c, X.env.cells.lookup y.1 = some c := fun y hy e => by
    rcases ok.free y hy e with k | k
    · exact I.ok.has _ (.inl k)
    · exact I.ok.has _ (.inr k)
  refine wpAny_comprehension_free (use := use) rfl hs (closure_ok hfree) ok.kind (fun y hy e => by rw [ok.uniq y hy, e])
    (thn (hi.run pins s σ H _ I h) fun v s1 ⟨H1, sc, T, L, I1, made, hT, q⟩ => ?_)
  obtain ⟨φ, n, rfl, isg, nD, I3, yg, old, le0, hz, S0⟩ := made.blk (o := { cls := .type "list", data := .seq ([] : List Value).toArray }) (w := .lst []) I1 hT (B := X.A.in1) (Room.in1' hr) (show X.A.frames = _ from I1.ok.frames) ok hN hnc (fun v q => by cases q) rfl trivial
    (fun s I => I.laid (t' := s.toks) (fun b o e => Heap.get?_push_of_some _ e) (Nat.le_refl _) ⟨Nat.zero_le _, [], 0, .nil, Heap.get?_push_size _ rfl⟩)
  have hroom : X.A.depth < recursionLimit := by have := hr.dp; omega
  refine wpAny_pyIter_gen isg ?_
  refine wpAny_newObj_type (newEnv_comp ?_) (by show 0 ≤ sizeLine; decide)
  obtain ⟨Pv, p0, pk, step, fin⟩ := q _ nD
  have pg := hg (pushO s1 { cls := .type "list", data := .seq ([] : List Value).toArray }) (upd H1 s1.heap.objs.size (.lst [])) (pushO s1 { cls := .type "list", data := .seq ([] : List Value).toArray }).heap.objs.size (cellsFrom ((pushO s1 { cls := .type "list", data := .seq ([] : List Value).toArray }).heap.objs.size + 1) scope.names (cloFrom X.env.cells scope.names [])) (youngs φ.a0 s1.heap.objs.size)
  have pt := ht (pushO s1 { cls := .type "list", data := .seq ([] : List Value).toArray }) (upd H1 s1.heap.objs.size (.lst [])) (pushO s1 { cls := .type "list", data := .seq ([] : List Value).toArray }).heap.objs.size (cellsFrom ((pushO s1 { cls := .type "list", data := .seq ([] : List Value).toArray }).heap.objs.size + 1) scope.names (cloFrom X.env.cells scope.names [])) (youngs φ.a0 s1.heap.objs.size)
  have pe := he (pushO s1 { cls := .type "list", data := .seq ([] : List Value).toArray }) (upd H1 s1.heap.objs.size (.lst [])) (pushO s1 { cls := .type "list", data := .seq ([] : List Value).toArray }).heap.objs.size (cellsFrom ((pushO s1 { cls := .type "list", data := .seq ([] : List Value).toArray }).heap.objs.size + 1) scope.names (cloFrom X.env.cells scope.names [])) (youngs φ.a0 s1.heap.objs.size)
  show codeAny _ _ (.compStart (.ListComp elt [⟨tg, iter, ifs, 0⟩] scope pos) 0 (.ref φ.go.1) (.ref s1.heap.objs.size) (cenvOf X (pushO s1 { cls := .type "list", data := .seq ([] : List Value).toArray }) scope)) (compPost (model X.prog X.w) X.A X.xe use Qf (.ref s1.heap.objs.size) (pushO s1 { cls := .type "list", data := .seq ([] : List Value).toArray }).heap.objs.size) (blkS (pushO s1 { cls := .type "list", data := .seq ([] : List Value).toArray }) scope)
  generalize hs3 : pushO s1 { cls := .type "list", data := .seq ([] : List Value).toArray } = s3 at S0 I3 pg pt pe yg ⊢
  generalize hD : s1.heap.objs.size = D at *
  generalize hH3 : upd H1 D (.lst []) = H3 at S0 I3 pg pt pe yg p0 hz
  have cL : (cenvOf X s3 scope).locals = s3.heap.objs.size := rfl
  have e3 : X.blk s3 H3 scope (compEnvC scope (cellsFrom (s3.heap.objs.size + 1) scope.names (cloFrom X.env.cells scope.names [])) s3.heap.objs.size X.env) (youngs φ.a0 D) = X.blk s3 H3 scope (cenvOf X s3 scope) (youngs φ.a0 D) := rfl
  rw [e3] at pg pt pe
  generalize hce : cenvOf X s3 scope = ce at S0 pg pt pe cL ⊢
  have loop : codeAny (model X.prog X.w) X.A (.compLoop (.ListComp elt [⟨tg, iter, ifs, 0⟩] scope pos) 0 (.ref φ.go.1) (.ref D) ce) (compPost (model X.prog X.w) X.A X.xe use Qf (.ref D) s3.heap.objs.size) (blkS s3 scope) := by
    refine compLoop_any (fun m s' => ∃ i g H', m = L.length - i ∧ i ≤ L.length ∧ Stand (X.blk s3 H3 scope ce (youngs φ.a0 D)) [] φ n L X.A.in1 i g (wipe σ (own.map (·.2))) H' s' ∧ Pv i g.T H') ?_ L.length ⟨0, _, H3, by simp, Nat.zero_le _, S0, p0⟩
    rintro m s5 ⟨i, gh, H5, rfl, hle, S5, p5⟩
    by_cases hl : i < L.length
    · refine wpAny_mono (S5.item (A := X.A) (List.getElem?_eq_getElem hl) hroom (E := fun _ _ => False)) (fun r s6 h6 => ?_) fun _ _ z => z.elim
      obtain ⟨u, x, g', rfl, rv, dv, up, nw, S6, sl, _⟩ := h6
      obtain ⟨nm, qn, gc, gd, _⟩ := S6.god
      refine go_of S6.go gc gd (by decide +kernel) ?_
      refine wpAny_mono (pg_asleep (X := X.blk s3 H3 scope ce (youngs φ.a0 D)) pg S6.pinned rv (step i L[i] gh.T H5 g'.T x (List.getElem?_eq_getElem hl) p5 ⟨up, nw⟩ dv)) (fun _ s8 ⟨σ8, H8, I8, ⟨hw8, q8⟩, k8⟩ => ?_) fun _ _ z => z.elim
      have sl8 : Gf.slp s8.gens n := slp_eq sl (k8.1 n sl)
      refine wpAny_mono (pt_asleep (X := X.blk s3 H3 scope ce (youngs φ.a0 D)) pt I8 q8) (fun b s9 ⟨H9, I9, q9, k9⟩ => ?_) fun _ _ z => z.elim
      have sl9 : Gf.slp s9.gens n := slp_eq sl8 (k9.1 n sl8)
      have again : ∀ {s' : Shared} {H' : Hp}, Inv (X.blk s3 H3 scope ce (youngs φ.a0 D)) ([] ++ pinsAt g'.fp s6.heap) σ8 H' s' → s'.gens[n]? = s6.gens[n]? → (∀ i ∈ g'.gs, s'.gens[i]? = s6.gens[i]?) → (∀ H'', Fg H1 H' H'' → Pv (i + 1) g'.T H'') → ∃ m, m < L.length - i ∧ ∃ i g H', m = L.length - i ∧ i ≤ L.length ∧ Stand (X.blk s3 H3 scope ce (youngs φ.a0 D)) [] φ n L X.A.in1 i g (wipe σ (own.map (·.2))) H' s' ∧ Pv i g.T H' := fun {s' H'} I' gn gs n7 => by
        have p7 := n7 _ (fg_drop (X := X.blk s3 H3 scope ce (youngs φ.a0 D)) I'.hok old)
        have hl : (wipe σ (own.map (·.2))).length = σ8.length := by rw [← hw8, wipe_length]
        have Iw := I'.weak hl (fun j v e => by
          rw [← hw8] at e
          exact (wipe_some e).1)
        refine ⟨L.length - (i + 1), by omega, i + 1, g', _, rfl, by omega, S6.kept Iw gn gs (fun b v e => (dropc_some ((pk _ _ _ p7).1 b v e)).1) (fun b l1 l2 nx => ?_) hz, p7⟩
        obtain ⟨ws, e⟩ := (pk _ _ _ p7).2
        have : b = D := by
          rcases Nat.lt_or_ge b D with q | q
          · exact (nx ((mem_youngs le0).mpr ⟨l1, q⟩)).elim
          · have l2 : b < s3.heap.objs.size := l2
            rw [← hs3] at l2
            have l2 : b < (s1.heap.push { cls := .type "list", data := .seq ([] : List Value).toArray }).objs.size := l2
            rw [Heap.size_push, hD] at l2
            exact Nat.le_antisymm (Nat.le_of_lt_succ l2) q
        rw [this]
        exact ⟨_, (dropc_some e).1, trivial⟩
      cases b with
      | false =>
        simp only [Bool.false_eq_true, if_false] at q9 ⊢
        exact again I9 ((k9.1 n sl8).trans (k8.1 n sl)) (fun i hi => (k9.1 i (slp_eq (S6.sg i hi) (k8.1 i (S6.sg i hi)))).trans (k8.1 i (S6.sg i hi))) q9
      | true =>
        simp only [if_true] at q9 ⊢
        refine wpAny_mono (pe_asleep (X := X.blk s3 H3 scope ce (youngs φ.a0 D)) pe I9 q9) (fun z s10 ⟨yv, H10, I10, r10, ⟨acc, hD10, hz10, nx⟩, k10⟩ => ?_) fun _ _ z => z.elim
        refine app_ok' (X := X.blk s3 H3 scope ce (youngs φ.a0 D)) I10 hD10 hz10 r10 fun s11 I11 g11 => again I11 ?_ (fun i hi => ?_) nx
        · rw [g11]
          exact ((k10.1 n sl9).trans (k9.1 n sl8)).trans (k8.1 n sl)
        · rw [g11]
          have a1 := S6.sg i hi
          have a2 := slp_eq a1 (k8.1 i a1)
          exact ((k10.1 i (slp_eq a2 (k9.1 i a2))).trans (k9.1 i a2)).trans (k8.1 i a1)
    · have e : i = L.length := by omega
      subst e
      refine wpAny_mono (S5.done (A := X.A) (Nat.le_refl _) hr.hd hroom (E := fun _ _ => False)) (fun r s6 ⟨h6, T', up, nw, I6, _⟩ => ?_) fun _ _ z => z.elim
      subst h6
      have I7 : Inv X pins σ (mrg H5 T') s6 := I3.call' (ch := youngs φ.a0 D) I6.os I6.base I6.hok I6.bare fun b hb => ⟨(yg b hb).1.2.2.2.1, (yg b hb).1.2.1, (yg b hb).1.2.2.2.2.1, (yg b hb).1.2.2.2.2.2⟩
      have nC : (mrg H5 T') s3.heap.objs.size = none := by
        have z : (mrg H5 T') ce.locals = none := I6.free
        rw [cL] at z
        exact z
      obtain ⟨m, hn, _⟩ := I6.loc
      have hn : s6.heap.Ns ce.locals m := hn
      rw [cL] at hn
      exact hRR D s3.heap.objs.size s6 m _ I7 (fin _ _ _ p5 ⟨up, nw⟩) hn (I3.fpOk (Nat.le_refl _) nC)
  refine codeAny_compStart_list loop (wpAny_pyIter_gen S0.isGen loop)
/-- as a value -/
theorem pe_lcY {elt tg iter : Expr} {ifs : List Expr} {scope : Scope} {own : List (Str × Nat)} {pos : Pos} {ty : TYen} {g : TG} {tt : TT} {te : TE} (hN : X.N.Nodup) (hi : PYen X k iter ty) (hr : Room (k + 1) X.A) (ok : BlkOk X.N X.env.scope scope own) (hnc : ∀ y ∈ scope.names, y.2 ≠ .cell)
    (hg : ∀ (s : Shared) (H : Hp) (C : Addr) (cl : List (Str × Addr)) (fp : List Addr), PG (X.blk s H scope (compEnvC scope cl C X.env) fp) tg g) (ht : ∀ (s : Shared) (H : Hp) (C : Addr) (cl : List (Str × Addr)) (fp : List Addr), PTs (X.blk s H scope (compEnvC scope cl C X.env) fp) ifs tt)
    (he : ∀ (s : Shared) (H : Hp) (C : Addr) (cl : List (Str × Addr)) (fp : List Addr), PE (X.blk s H scope (compEnvC scope cl C X.env) fp) elt te) (hs : ∀ x, foldedSetIterable iter X.env x = pure x := by intro _; rfl) :
    PE X (.ListComp elt [⟨tg, iter, ifs, 0⟩] scope pos) (tLcY ty g tt te (own.map (·.2))) := by
  refine ⟨fun pins s σ H Q I h => ?_⟩
  rw [eval_ListComp]
  refine lcY_core hN I hi hr ok hnc hg ht he hs h fun D C s' m H' I' q hn f => ⟨m, hn, fun h'' sb => ?_⟩
  obtain ⟨f0, f1, f2, f3, f4, f5⟩ := f
  exact ⟨.ref D, H', I'.turned (t' := s'.toks) (fun b o hb e => (sb.2 b hb).trans e) f0 f1 f3 f4 f5, rfl, q⟩
/-- name = [..] on one line, the name a local -/
theorem ps_setLcY {i : Nat} {y : Str} {py : Pos} {elt tg iter : Expr} {ifs : List Expr} {scope : Scope} {own : List (Str × Nat)} {pos spos : Pos} {ty : TYen} {g : TG} {tt : TT} {te : TE} (hN : X.N.Nodup) (hy : X.N[i]? = some y) (hyl : X.env.scope.names.lookup y = some .local)
    (hsw : swapsWith (.ListComp elt [⟨tg, iter, ifs, 0⟩] scope pos) (some (.Name y py)) spos.line X.env = pure true) (hi : PYen X k iter ty) (hr : Room (k + 1) X.A) (ok : BlkOk X.N X.env.scope scope own) (hnc : ∀ y ∈ scope.names, y.2 ≠ .cell)
    (hg : ∀ (s : Shared) (H : Hp) (C : Addr) (cl : List (Str × Addr)) (fp : List Addr), PG (X.blk s H scope (compEnvC scope cl C X.env) fp) tg g) (ht : ∀ (s : Shared) (H : Hp) (C : Addr) (cl : List (Str × Addr)) (fp : List Addr), PTs (X.blk s H scope (compEnvC scope cl C X.env) fp) ifs tt)
    (he : ∀ (s : Shared) (H : Hp) (C : Addr) (cl : List (Str × Addr)) (fp : List Addr), PE (X.blk s H scope (compEnvC scope cl C X.env) fp) elt te) (hs : ∀ x, foldedSetIterable iter X.env x = pure x := by intro _; rfl) :
    PS X (.Assign [.Name y py] (.ListComp elt [⟨tg, iter, ifs, 0⟩] scope pos) spos) (tAsg (tLcY ty g tt te (own.map (·.2))) (gName i)) := by
  refine ⟨fun pins s σ H D I h => ?_⟩
  rw [exec_Assign_Name_used _ _ _ _ hsw]
  refine wpAny_bind (wpAny_standAt (wpAny_bind ?_))
  show wpAny _ X.A (do let _ ← comprehension (.ListComp elt [⟨tg, iter, ifs, 0⟩] scope pos) scope X.env (firstIterPos [⟨tg, iter, ifs, 0⟩] pos) (newList []) false (eval iter X.env) (some (assign (.Name y py) X.env))) _ _ s
  have h : tLcY ty g tt te (own.map (·.2)) σ H (fun x H1 => gName i x σ H1 D.nx) := h
  refine wpAny_bind (thn (lcY_core (Qf := fun _ s' => SP X pins D .next s') hN I hi hr ok hnc hg ht he hs h fun L C s' m H' I' q hn f => ?_) fun _ s' hq => wpAny_pure (wpAny_pure hq))
  show wpAny _ _ (assign (.Name y py) X.env (.ref L)) _ _ _
  refine wpAny_assign_Name (store_ok2 (v := V.ref L) I' hN hy (.inl hyl) rfl (fun s2 I2 ⟨a, sb, ha⟩ => ?_) (.inr hyl))
  obtain ⟨f0, f1, f2, f3, f4, f5⟩ := f
  have haC : C ≠ a := by
    rcases ha with z | z
    · rw [z]; exact f1
    · exact fun e => f4 y a z e.symm
  refine ⟨m, hn.sameBut sb haC, fun h3 sb3 => ?_⟩
  exact ⟨_, H', I2.turned (t' := s2.toks) (fun b o hb e => (sb3.2 b hb).trans e) f0 f1 f3 f4 f5, q⟩
/-- {k: v for target in g(..) if ..} -/
def tDcY (ty : TYen) (g : TG) (tt : TT) (tk tv : TE) (vs : List Nat) : TE := fun σ H Q => ty σ H fun T L H1 => ∀ D, H1 D = none → ∃ Pv : Nat → Hp → Hp → Prop, Pv 0 T (upd H1 D (.dK [])) ∧ (∀ i T H, Pv i T H → (∀ b u, T b = some u → H b = some u) ∧ ∃ ws, H D = some (.dK ws)) ∧
  (∀ (i : Nat) (d : PyData) (T H T' : Hp) (x : V), L[i]? = some d → Pv i T H → Nw T T' H → Dv (fun _ => False) T' x d → g x (wipe σ vs) (mrg H T') fun σ2 H2 => wipe σ2 vs = wipe σ vs ∧ tt σ2 H2 fun b H3 =>
    if b = true then tk σ2 H3 fun y H4 => tv σ2 H4 fun z H5 => ∃ kvs kk, y = kV kk ∧ H5 D = some (.dK kvs) ∧ kvs.length < sizeLine ∧ ∀ H'', Fg H1 (upd H5 D (.dK (putK kvs kk z))) H'' → Pv (i + 1) T' H'' else ∀ H'', Fg H1 H3 H'' → Pv (i + 1) T' H'') ∧
  ∀ (T H T' : Hp), Pv L.length T H → Nw T T' H → Q (.ref D) (mrg H T')
theorem d_dictSet' {X : Cx} {pins : List (Addr × Obj)} {σ : L2.St} {H : Hp} {s : Shared} {E : Value → Shared → Prop} {D : Addr} {kvs : List (Key × V)} {k : Key} {v : V} {u r : Value} {Q : Unit → Shared → Prop} (I : Inv X pins σ H s) (hD : H D = some (.dK kvs)) (hz : kvs.length < sizeLine)
    (ry : RelV (kV k) u) (rv : RelV v r) (h : ∀ s', Inv X pins σ (upd H D (.dK (putK kvs k v))) s' → s'.gens = s.gens → Q () s') : wpAny (model X.prog X.w) X.A (dictSet D u r) Q E s := by
  obtain ⟨z, hd, vs, rel, dd⟩ := dk_of I.hok hD
  have hzv : vs.length ≤ sizeLine := by rw [← rel.length]; exact z
  have hl : (putK kvs k v).length ≤ sizeLine := by have := length_putK kvs k v; omega
  refine wpAny_dictSet_pairs (hsz := hzv) (kV_is ry) dd fun h' dd' hs => h _ ?_ rfl
  have he : ∃ q, h'.get? D = some q := let ⟨q, _, _, hq, _⟩ := dd'; ⟨q, hq⟩
  exact d_write I (by rw [hD]; exact True.intro) hs he (dk_new hl hd (rel.put k rv) dd')
theorem dcY_core {pins : List (Addr × Obj)} {s : Shared} {σ : L2.St} {H : Hp} {Q : VK} {kx vx tg iter : Expr} {ifs : List Expr} {scope : Scope} {own : List (Str × Nat)} {pos pos' : Pos} {ty : TYen} {g : TG} {tt : TT} {tk tv : TE} {use : Option (Value → Sem Unit)} {Qf : Value → Shared → Prop}
    (hN : X.N.Nodup) (I : Inv X pins σ H s) (hi : PYen X k iter ty) (hr : Room (k + 1) X.A) (ok : BlkOk X.N X.env.scope scope own) (hnc : ∀ y ∈ scope.names, y.2 ≠ .cell)
    (hg : ∀ (s : Shared) (H : Hp) (C : Addr) (cl : List (Str × Addr)) (fp : List Addr), PG (X.blk s H scope (compEnvC scope cl C X.env) fp) tg g) (ht : ∀ (s : Shared) (H : Hp) (C : Addr) (cl : List (Str × Addr)) (fp : List Addr), PTs (X.blk s H scope (compEnvC scope cl C X.env) fp) ifs tt)
    (hk : ∀ (s : Shared) (H : Hp) (C : Addr) (cl : List (Str × Addr)) (fp : List Addr), PE (X.blk s H scope (compEnvC scope cl C X.env) fp) kx tk)
    (he : ∀ (s : Shared) (H : Hp) (C : Addr) (cl : List (Str × Addr)) (fp : List Addr), PE (X.blk s H scope (compEnvC scope cl C X.env) fp) vx tv) (hs : ∀ x, foldedSetIterable iter X.env x = pure x)
    (h : tDcY ty g tt tk tv (own.map (·.2)) σ H Q)
    (hRR : ∀ D C s' m H', Inv X pins σ H' s' → Q (.ref D) H' → s'.heap.Ns C m → FpOk X pins H' C → compPost (model X.prog X.w) X.A X.xe use Qf (.ref D) C (.ok .next) s') :
    wpAny (model X.prog X.w) X.A (comprehension (.DictComp kx vx [⟨tg, iter, ifs, 0⟩] scope pos) scope X.env pos' newDict false (eval iter X.env) use) Qf X.xe s := by
  have hfree : ∀ y ∈ scope.names, y.2 = .free → ∃ c, X.env.cells.lookup y.1 = some c := fun y hy e => by
    rcases ok.free y hy e with k | k
    · exact I.ok.has _ (.inl k)
    · exact I.ok.has _ (.inr k)
  refine wpAny_comprehension_free (use := use) rfl hs (closure_ok hfree) ok.kind (fun y hy e => by rw [ok.uniq y hy, e])
    (thn (hi.run pins s σ H _ I h) fun v s1 ⟨H1, sc, T, L, I1, made, hT, q⟩ => ?_)
  obtain ⟨φ, n, rfl, isg, nD, I3, yg, old, le0, hz, S0⟩ := made.blk (o := { cls := .type "dict", data := .dict #[] }) (w := .dK []) I1 hT (B := X.A.in1) (Room.in1' hr) (show X.A.frames = _ from I1.ok.frames) ok hN hnc (fun v q => by cases q) rfl trivial
    (fun s I => I.laid (t' := s.toks) (fun b o e => Heap.get?_push_of_some _ e) (Nat.le_refl _) (dk_empty s.heap I.big))
  have hroom : X.A.depth < recursionLimit := by have := hr.dp; omega
  refine wpAny_pyIter_gen isg ?_
  refine wpAny_newObj_type (newEnv_comp ?_)
  obtain ⟨Pv, p0, pk, step, fin⟩ := q _ nD
  have pg := hg (pushO s1 { cls := .type "dict", data := .dict #[] }) (upd H1 s1.heap.objs.size (.dK [])) (pushO s1 { cls := .type "dict", data := .dict #[] }).heap.objs.size (cellsFrom ((pushO s1 { cls := .type "dict", data := .dict #[] }).heap.objs.size + 1) scope.names (cloFrom X.env.cells scope.names [])) (youngs φ.a0 s1.heap.objs.size)
  have pt := ht (pushO s1 { cls := .type "dict", data := .dict #[] }) (upd H1 s1.heap.objs.size (.dK [])) (pushO s1 { cls := .type "dict", data := .dict #[] }).heap.objs.size (cellsFrom ((pushO s1 { cls := .type "dict", data := .dict #[] }).heap.objs.size + 1) scope.names (cloFrom X.env.cells scope.names [])) (youngs φ.a0 s1.heap.objs.size)
  have pk' := hk (pushO s1 { cls := .type "dict", data := .dict #[] }) (upd H1 s1.heap.objs.size (.dK [])) (pushO s1 { cls := .type "dict", data := .dict #[] }).heap.objs.size (cellsFrom ((pushO s1 { cls := .type "dict", data := .dict #[] }).heap.objs.size + 1) scope.names (cloFrom X.env.cells scope.names [])) (youngs φ.a0 s1.heap.objs.size)
  have pe := he (pushO s1 { cls := .type "dict", data := .dict #[] }) (upd H1 s1.heap.objs.size (.dK [])) (pushO s1 { cls := .type "dict", data := .dict #[] }).heap.objs.size (cellsFrom ((pushO s1 { cls := .type "dict", data := .dict #[] }).heap.objs.size + 1) scope.names (cloFrom X.env.cells scope.names [])) (youngs φ.a0 s1.heap.objs.size)
  show codeAny _ _ (.compStart (.DictComp kx vx [⟨tg, iter, ifs, 0⟩] scope pos) 0 (.ref φ.go.1) (.ref s1.heap.objs.size) (cenvOf X (pushO s1 { cls := .type "dict", data := .dict #[] }) scope)) (compPost (model X.prog X.w) X.A X.xe use Qf (.ref s1.heap.objs.size) (pushO s1 { cls := .type "dict", data := .dict #[] }).heap.objs.size) (blkS (pushO s1 { cls := .type "dict", data := .dict #[] }) scope)
  generalize hs3 : pushO s1 { cls := .type "dict", data := .dict #[] } = s3 at S0 I3 pg pt pk' pe yg ⊢
  generalize hD : s1.heap.objs.size = D at *
  generalize hH3 : upd H1 D (.dK []) = H3 at S0 I3 pg pt pk' pe yg p0 hz
  have cL : (cenvOf X s3 scope).locals = s3.heap.objs.size := rfl
  have e3 : X.blk s3 H3 scope (compEnvC scope (cellsFrom (s3.heap.objs.size + 1) scope.names (cloFrom X.env.cells scope.names [])) s3.heap.objs.size X.env) (youngs φ.a0 D) = X.blk s3 H3 scope (cenvOf X s3 scope) (youngs φ.a0 D) := rfl
  rw [e3] at pg pt pk' pe
  generalize hce : cenvOf X s3 scope = ce at S0 pg pt pk' pe cL ⊢
  have loop : codeAny (model X.prog X.w) X.A (.compLoop (.DictComp kx vx [⟨tg, iter, ifs, 0⟩] scope pos) 0 (.ref φ.go.1) (.ref D) ce) (compPost (model X.prog X.w) X.A X.xe use Qf (.ref D) s3.heap.objs.size) (blkS s3 scope) := by
    refine compLoop_anyD (fun m s' => ∃ i g H', m = L.length - i ∧ i ≤ L.length ∧ Stand (X.blk s3 H3 scope ce (youngs φ.a0 D)) [] φ n L X.A.in1 i g (wipe σ (own.map (·.2))) H' s' ∧ Pv i g.T H') ?_ L.length ⟨0, _, H3, by simp, Nat.zero_le _, S0, p0⟩
    rintro m s5 ⟨i, gh, H5, rfl, hle, S5, p5⟩
    by_cases hl : i < L.length
    · refine wpAny_mono (S5.item (A := X.A) (List.getElem?_eq_getElem hl) hroom (E := fun _ _ => False)) (fun r s6 h6 => ?_) fun _ _ z => z.elim
      obtain ⟨u, x, g', rfl, rv, dv, up, nw, S6, sl, _⟩ := h6
      obtain ⟨nm, qn, gc, gd, _⟩ := S6.god
      refine go_of S6.go gc gd (by decide +kernel) ?_
      refine wpAny_mono (pg_asleep (X := X.blk s3 H3 scope ce (youngs φ.a0 D)) pg S6.pinned rv (step i L[i] gh.T H5 g'.T x (List.getElem?_eq_getElem hl) p5 ⟨up, nw⟩ dv)) (fun _ s8 ⟨σ8, H8, I8, ⟨hw8, q8⟩, k8⟩ => ?_) fun _ _ z => z.elim
      have sl8 : Gf.slp s8.gens n := slp_eq sl (k8.1 n sl)
      refine wpAny_mono (pt_asleep (X := X.blk s3 H3 scope ce (youngs φ.a0 D)) pt I8 q8) (fun b s9 ⟨H9, I9, q9, k9⟩ => ?_) fun _ _ z => z.elim
      have sl9 : Gf.slp s9.gens n := slp_eq sl8 (k9.1 n sl8)
      have again : ∀ {s' : Shared} {H' : Hp}, Inv (X.blk s3 H3 scope ce (youngs φ.a0 D)) ([] ++ pinsAt g'.fp s6.heap) σ8 H' s' → s'.gens[n]? = s6.gens[n]? → (∀ i ∈ g'.gs, s'.gens[i]? = s6.gens[i]?) → (∀ H'', Fg H1 H' H'' → Pv (i + 1) g'.T H'') → ∃ m, m < L.length - i ∧ ∃ i g H', m = L.length - i ∧ i ≤ L.length ∧ Stand (X.blk s3 H3 scope ce (youngs φ.a0 D)) [] φ n L X.A.in1 i g (wipe σ (own.map (·.2))) H' s' ∧ Pv i g.T H' := fun {s' H'} I' gn gs n7 => by
        have p7 := n7 _ (fg_drop (X := X.blk s3 H3 scope ce (youngs φ.a0 D)) I'.hok old)
        have hl : (wipe σ (own.map (·.2))).length = σ8.length := by rw [← hw8, wipe_length]
        have Iw := I'.weak hl (fun j v e => by
          rw [← hw8] at e
          exact (wipe_some e).1)
        refine ⟨L.length - (i + 1), by omega, i + 1, g', _, rfl, by omega, S6.kept Iw gn gs (fun b v e => (dropc_some ((pk _ _ _ p7).1 b v e)).1) (fun b l1 l2 nx => ?_) hz, p7⟩
        obtain ⟨ws, e⟩ := (pk _ _ _ p7).2
        have : b = D := by
          rcases Nat.lt_or_ge b D with q | q
          · exact (nx ((mem_youngs le0).mpr ⟨l1, q⟩)).elim
          · have l2 : b < s3.heap.objs.size := l2
            rw [← hs3] at l2
            have l2 : b < (s1.heap.push { cls := .type "dict", data := .dict #[] }).objs.size := l2
            rw [Heap.size_push, hD] at l2
            exact Nat.le_antisymm (Nat.le_of_lt_succ l2) q
        rw [this]
        exact ⟨_, (dropc_some e).1, trivial⟩
      cases b with
      | false =>
        simp only [Bool.false_eq_true, if_false] at q9 ⊢
        exact again I9 ((k9.1 n sl8).trans (k8.1 n sl)) (fun i hi => (k9.1 i (slp_eq (S6.sg i hi) (k8.1 i (S6.sg i hi)))).trans (k8.1 i (S6.sg i hi))) q9
      | true =>
        simp only [if_true] at q9 ⊢
        refine wpAny_mono (pe_asleep (X := X.blk s3 H3 scope ce (youngs φ.a0 D)) pk' I9 q9) (fun z s10 ⟨yk, H10, I10, r10, q10, k10⟩ => ?_) fun _ _ z => z.elim
        have sl10 : Gf.slp s10.gens n := slp_eq sl9 (k10.1 n sl9)
        refine wpAny_mono (pe_asleep (X := X.blk s3 H3 scope ce (youngs φ.a0 D)) pe I10 q10) (fun z s11 ⟨yv, H11, I11, r11, ⟨kvs, kk, ek, hD11, hz11, nx⟩, k11⟩ => ?_) fun _ _ z => z.elim
        subst ek
        refine d_dictSet' (X := X.blk s3 H3 scope ce (youngs φ.a0 D)) I11 hD11 hz11 r10 r11 fun s12 I12 g12 => again I12 ?_ (fun i hi => ?_) nx
        · rw [g12]
          exact (((k11.1 n sl10).trans (k10.1 n sl9)).trans (k9.1 n sl8)).trans (k8.1 n sl)
        · rw [g12]
          have a1 := S6.sg i hi
          have a2 := slp_eq a1 (k8.1 i a1)
          have a3 := slp_eq a2 (k9.1 i a2)
          exact (((k11.1 i (slp_eq a3 (k10.1 i a3))).trans (k10.1 i a3)).trans (k9.1 i a2)).trans (k8.1 i a1)
    · have e : i = L.length := by omega
      subst e
      refine wpAny_mono (S5.done (A := X.A) (Nat.le_refl _) hr.hd hroom (E := fun _ _ => False)) (fun r s6 ⟨h6, T', up, nw, I6, _⟩ => ?_) fun _ _ z => z.elim
      subst h6
      have I7 : Inv X pins σ (mrg H5 T') s6 := I3.call' (ch := youngs φ.a0 D) I6.os I6.base I6.hok I6.bare fun b hb => ⟨(yg b hb).1.2.2.2.1, (yg b hb).1.2.1, (yg b hb).1.2.2.2.2.1, (yg b hb).1.2.2.2.2.2⟩
      have nC : (mrg H5 T') s3.heap.objs.size = none := by
        have z : (mrg H5 T') ce.locals = none := I6.free
        rw [cL] at z
        exact z
      obtain ⟨m, hn, _⟩ := I6.loc
      have hn : s6.heap.Ns ce.locals m := hn
      rw [cL] at hn
      exact hRR D s3.heap.objs.size s6 m _ I7 (fin _ _ _ p5 ⟨up, nw⟩) hn (I3.fpOk (Nat.le_refl _) nC)
  refine codeAny_compStart_dict loop (wpAny_pyIter_gen S0.isGen loop)
/-- as a value -/
theorem pe_dcY {kx vx tg iter : Expr} {ifs : List Expr} {scope : Scope} {own : List (Str × Nat)} {pos : Pos} {ty : TYen} {g : TG} {tt : TT} {tk tv : TE} (hN : X.N.Nodup) (hi : PYen X k iter ty) (hr : Room (k + 1) X.A) (ok : BlkOk X.N X.env.scope scope own) (hnc : ∀ y ∈ scope.names, y.2 ≠ .cell)
    (hg : ∀ (s : Shared) (H : Hp) (C : Addr) (cl : List (Str × Addr)) (fp : List Addr), PG (X.blk s H scope (compEnvC scope cl C X.env) fp) tg g) (ht : ∀ (s : Shared) (H : Hp) (C : Addr) (cl : List (Str × Addr)) (fp : List Addr), PTs (X.blk s H scope (compEnvC scope cl C X.env) fp) ifs tt)
    (hk : ∀ (s : Shared) (H : Hp) (C : Addr) (cl : List (Str × Addr)) (fp : List Addr), PE (X.blk s H scope (compEnvC scope cl C X.env) fp) kx tk)
    (he : ∀ (s : Shared) (H : Hp) (C : Addr) (cl : List (Str × Addr)) (fp : List Addr), PE (X.blk s H scope (compEnvC scope cl C X.env) fp) vx tv) (hs : ∀ x, foldedSetIterable iter X.env x = pure x := by intro _; rfl) :
    PE X (.DictComp kx vx [⟨tg, iter, ifs, 0⟩] scope pos) (tDcY ty g tt tk tv (own.map (·.2))) := by
  refine ⟨fun pins s σ H Q I h => ?_⟩
  rw [arm_eval_DictComp]
  refine dcY_core hN I hi hr ok hnc hg ht hk he hs h fun D C s' m H' I' q hn f => ⟨m, hn, fun h'' sb => ?_⟩
  obtain ⟨f0, f1, f2, f3, f4, f5⟩ := f
  exact ⟨.ref D, H', I'.turned (t' := s'.toks) (fun b o hb e => (sb.2 b hb).trans e) f0 f1 f3 f4 f5, rfl, q⟩
/-- name = {..} on one line, the name a local -/
theorem ps_setDcY {i : Nat} {y : Str} {py : Pos} {kx vx tg iter : Expr} {ifs : List Expr} {scope : Scope} {own : List (Str × Nat)} {pos spos : Pos} {ty : TYen} {g : TG} {tt : TT} {tk tv : TE} (hN : X.N.Nodup) (hy : X.N[i]? = some y) (hyl : X.env.scope.names.lookup y = some .local)
    (hsw : swapsWith (.DictComp kx vx [⟨tg, iter, ifs, 0⟩] scope pos) (some (.Name y py)) spos.line X.env = pure true) (hi : PYen X k iter ty) (hr : Room (k + 1) X.A) (ok : BlkOk X.N X.env.scope scope own) (hnc : ∀ y ∈ scope.names, y.2 ≠ .cell)
    (hg : ∀ (s : Shared) (H : Hp) (C : Addr) (cl : List (Str × Addr)) (fp : List Addr), PG (X.blk s H scope (compEnvC scope cl C X.env) fp) tg g) (ht : ∀ (s : Shared) (H : Hp) (C : Addr) (cl : List (Str × Addr)) (fp : List Addr), PTs (X.blk s H scope (compEnvC scope cl C X.env) fp) ifs tt)
    (hk : ∀ (s : Shared) (H : Hp) (C : Addr) (cl : List (Str × Addr)) (fp : List Addr), PE (X.blk s H scope (compEnvC scope cl C X.env) fp) kx tk)
    (he : ∀ (s : Shared) (H : Hp) (C : Addr) (cl : List (Str × Addr)) (fp : List Addr), PE (X.blk s H scope (compEnvC scope cl C X.env) fp) vx tv) (hs : ∀ x, foldedSetIterable iter X.env x = pure x := by intro _; rfl) :
    PS X (.Assign [.Name y py] (.DictComp kx vx [⟨tg, iter, ifs, 0⟩] scope pos) spos) (tAsg (tDcY ty g tt tk tv (own.map (·.2))) (gName i)) := by
  refine ⟨fun pins s σ H D I h => ?_⟩
  rw [exec_Assign_Name_used _ _ _ _ hsw]
  refine wpAny_bind (wpAny_standAt (wpAny_bind ?_))
  show wpAny _ X.A (do let _ ← comprehension (.DictComp kx vx [⟨tg, iter, ifs, 0⟩] scope pos) scope X.env (firstIterPos [⟨tg, iter, ifs, 0⟩] pos) newDict false (eval iter X.env) (some (assign (.Name y py) X.env))) _ _ s
  have h : tDcY ty g tt tk tv (own.map (·.2)) σ H (fun x H1 => gName i x σ H1 D.nx) := h
  refine wpAny_bind (thn (dcY_core (Qf := fun _ s' => SP X pins D .next s') hN I hi hr ok hnc hg ht hk he hs h fun L C s' m H' I' q hn f => ?_) fun _ s' hq => wpAny_pure (wpAny_pure hq))
  show wpAny _ _ (assign (.Name y py) X.env (.ref L)) _ _ _
  refine wpAny_assign_Name (store_ok2 (v := V.ref L) I' hN hy (.inl hyl) rfl (fun s2 I2 ⟨a, sb, ha⟩ => ?_) (.inr hyl))
  obtain ⟨f0, f1, f2, f3, f4, f5⟩ := f
  have haC : C ≠ a := by
    rcases ha with z | z
    · rw [z]; exact f1
    · exact fun e => f4 y a z e.symm
  refine ⟨m, hn.sameBut sb haC, fun h3 sb3 => ?_⟩
  exact ⟨_, H', I2.turned (t' := s2.toks) (fun b o hb e => (sb3.2 b hb).trans e) f0 f1 f3 f4 f5, q⟩
end
end Gf
/-! comprehensions over generators, over data -/
namespace Dl
open PySem PySem.Spec PyProof.Rows L2 Gd GenW Gf
section
variable {X : Cx} {G : Gx}
theorem Rel.drop2 {O : Addr → Prop} {σ : L2.St} {H1 H H' : Hp} {E : En} (r : Rel G O σ H E) (f : Fg H1 H H') (o : ∀ x, G.Hs x ≠ none → H1 x ≠ none) (al : ∀ x, O x → H' x ≠ none) : Rel G O σ H' E := by
  have e : (fun x => O x ∧ H' x ≠ none) = O := funext fun x => propext ⟨And.left, fun h => ⟨h, al x h⟩⟩
  have := r.drop' f o
  rw [e] at this
  exact this
theorem wipe_twice (vs : List Nat) (σ : L2.St) : wipe (wipe σ vs) vs = wipe σ vs := by
  have key : ∀ (us vs : List Nat), (∀ u ∈ us, u ∈ vs) → wipe (wipe σ vs) us = wipe σ vs := by
    intro us
    induction us with
    | nil => intro vs _; rfl
    | cons u us ih =>
      intro vs h
      show (wipe (wipe σ vs) us).set u none = _
      rw [ih vs fun w hw => h w (List.mem_cons_of_mem _ hw)]
      have hu := h u List.mem_cons_self
      have : ∀ (vs : List Nat), u ∈ vs → ∀ x, (wipe σ vs)[u]? = some x → x = none := by
        intro vs
        induction vs with
        | nil => intro h; cases h
        | cons w vs ih2 =>
          intro h x ex
          by_cases q : w = u
          · subst q
            rw [show wipe σ (w :: vs) = (wipe σ vs).set w none from rfl, List.getElem?_set] at ex
            rw [if_pos rfl] at ex
            split at ex
            · cases ex; rfl
            · cases ex
          · rw [show wipe σ (w :: vs) = (wipe σ vs).set w none from rfl, List.getElem?_set_ne q] at ex
            exact ih2 ((List.mem_cons.mp h).resolve_left fun y => q y.symm) x ex
      refine List.ext_getElem? fun j => ?_
      rw [List.getElem?_set]
      split
      · rename_i q
        subst q
        split
        · rename_i hlt
          have := this vs hu _ (List.getElem?_eq_getElem hlt)
          rw [List.getElem?_eq_getElem hlt, this]
        · rename_i hlt
          exact (List.getElem?_eq_none (by omega)).symm
      · rfl
  exact key vs vs fun _ h => h
/-- the tuples that are at hand -/
def tupT (O : Addr → Prop) [DecidablePred O] (H : Hp) : Hp := fun b => if O b then none else tupOf H b
theorem tupT_some {O : Addr → Prop} [DecidablePred O] {H : Hp} {b : Addr} {u : HO} (h : tupT O H b = some u) : H b = some u ∧ ¬ O b ∧ ∃ xs, u = .tup xs := by
  unfold tupT at h
  split at h
  · cases h
  · rename_i no
    obtain ⟨xs, rfl, e⟩ := tupOf_tup h
    exact ⟨e, no, xs, rfl⟩
theorem ar_flt {O : Addr → Prop} [DecidablePred O] {H : Hp} : ∀ {vs : List V} {ds : List PyData}, Paired (ArR O H) vs (ds.map Ar.d) → (∀ d ∈ ds, fltD d = true) → Paired (Dv (fun _ => False) (tupT O H)) vs ds := by
  intro vs ds
  induction ds generalizing vs with
  | nil => intro h _; cases h; exact .nil
  | cons d ds ih =>
    intro h hf
    cases h with
    | cons a t => exact .cons (dv_flt (show Dv O H _ d from a) (fun a xs h n => by show (if O a then none else tupOf H a) = _; rw [if_neg n]; exact tupOf_eq.mpr h) (hf d List.mem_cons_self)) (ih t fun x hx => hf x (List.mem_cons_of_mem _ hx))
/-- at the start of a turn of the block -/
structure BkT (G : Gx) (O : Addr → Prop) (D : Addr) (H1 : Hp) (o0 : HO) (σ : L2.St) (ρ : List Sl) (n : Nat) (T H2 : Hp) : Prop where
  lt : Later (fun x => O x ∨ x = D) (upd H1 D o0) (fun x => O x ∨ x = D) H2
  kp : Kp (fun x => G.F.S x ∨ x = D) (upd H1 D o0) H2
  rl : Rel G (fun x => O x ∨ x = D) σ H2 ⟨ρ, n⟩
  tk : ∀ b u, T b = some u → H2 b = some u ∧ ¬ (O b ∨ b = D)
  tt : ∀ b u, T b = some u → ∃ xs, u = .tup xs
theorem BkT.fg {O : Addr → Prop} {D : Addr} {H1 : Hp} {o0 : HO} {σ : L2.St} {ρ : List Sl} {n : Nat} {T H2 H'' : Hp} (b : BkT G O D H1 o0 σ ρ n T H2) (f : Fg H1 H2 H'') (old : ∀ x, G.Hs x ≠ none → H1 x ≠ none) (al : ∀ x, O x → H1 x ≠ none) {w : HO} (hD : H2 D = some w) (sw : Strc w) (hT : ∀ b u, T b = some u → ∃ xs, u = .tup xs) : BkT G O D H1 o0 σ ρ n T H'' := by
  have in1 : ∀ {x u}, (upd H1 D o0) x = some u → x ≠ D → H1 x ≠ none := fun {x u} e ne => by
    rw [upd_ne ne] at e
    rw [e]
    exact fun z => by cases z
  refine ⟨⟨fun x h => .inl h, fun x u e nx => Stay.trans (b.lt.h x u e nx) fun u' e' => Stay.of (f.kp x u' e' (.inl (in1 e fun z => nx (.inr z))))⟩, fun x u e nx => Stay.trans (b.kp x u e nx) fun u' e' => Stay.of (f.kp x u' e' (.inl (in1 e fun z => nx (.inr z)))), b.rl.drop2 f old fun x h => ?_, fun y u h => ?_, hT⟩
  · rcases h with h | h
    · cases e : H2 x with
      | none => exact (b.rl.al x (.inl h) e).elim
      | some u =>
        rw [f.kp x u e (.inl (al x h))]
        exact fun z => by cases z
    · rw [h, f.kp D w hD (.inr sw)]
      exact fun z => by cases z
  · obtain ⟨xs, rfl⟩ := hT y u h
    exact ⟨f.kp y _ (b.tk y _ h).1 (.inr trivial), (b.tk y _ h).2⟩
/-- what the generator has brought -/
theorem BkT.mrg {O : Addr → Prop} {D : Addr} {H1 : Hp} {o0 : HO} {σ : L2.St} {ρ : List Sl} {n : Nat} {T T' H2 : Hp} (b : BkT G O D H1 o0 σ ρ n T H2) (nw : Gf.Nw T T' H2) : BkT G O D H1 o0 σ ρ n T' (mrg H2 T') := by
  have k3 : Kp G.F.S H2 (Gf.mrg H2 T') := fun b u h _ => Stay.of (mrg_some h)
  refine ⟨b.lt.trans (b.rl.lt k3), b.kp.trans fun x u e n => k3 x u e fun y => n (.inl y), b.rl.step k3 (G.F.keep _ _ _ b.rl.str fun x u _ h => mrg_some h), fun y u h => ?_, fun y u h => (nw.2 y u h).1⟩
  rcases (nw.2 y u h).2 with h2 | h2
  · exact ⟨mrg_some (b.tk y u h2).1, (b.tk y u h2).2⟩
  · exact ⟨by rw [mrg_none h2]; exact h, fun z => b.rl.al y z h2⟩
/-- an expression's run -/
theorem BkT.step {O : Addr → Prop} {D : Addr} {H1 : Hp} {o0 : HO} {σ : L2.St} {ρ : List Sl} {n m : Nat} {T H2 H3 : Hp} (b : BkT G O D H1 o0 σ ρ n T H2) (k : Kp G.F.S H2 H3) (i : G.F.I m H3) : BkT G O D H1 o0 σ ρ m T H3 :=
  ⟨b.lt.trans (b.rl.lt k), b.kp.trans fun x u e n => k x u e fun y => n (.inl y), b.rl.step k i, fun y u h => ⟨by
    obtain ⟨xs, rfl⟩ := b.tt y u h
    exact k y _ (b.tk y _ h).1 (fun z => (b.tk y _ h).2 (b.rl.sO y z)), (b.tk y u h).2⟩, b.tt⟩
/-- the new object is filled -/
theorem BkT.fill {O : Addr → Prop} {D : Addr} {H1 : Hp} {o0 w : HO} {σ : L2.St} {ρ : List Sl} {n : Nat} {T H2 : Hp} (b : BkT G O D H1 o0 σ ρ n T H2) (nS : ¬ G.F.S D) (hD : H1 D = none) (nO : ¬ O D) {n0 : Nat} (r1 : Rel G O σ H1 ⟨ρ, n0⟩) {w0 : HO} (hw0 : H2 D = some w0) (ww : nt w0 = true) (t : nt w = true) : BkT G O D H1 o0 σ ρ n T (upd H2 D w) := by
  have L6 : Later (fun x => O x ∨ x = D) H2 (fun x => O x ∨ x = D) (upd H2 D w) := ⟨fun _ z => .inl z, fun x u e n => by rw [upd_ne (show x ≠ D from fun z => n (.inr z))]; exact Stay.of e⟩
  refine ⟨b.lt.trans L6, fun x u e n => by rw [upd_ne (show x ≠ D from fun z => n (.inr z))]; exact b.kp x u e n, ⟨b.rl.len, fun j d e => ?_, fun j es e => ?_, b.rl.dif, b.rl.con, G.F.keep _ _ _ b.rl.str fun x o y e => ?_, b.rl.bo, b.rl.on, b.rl.aB.upd t, fun x u e n => ?_, b.rl.od.mv (fun _ _ z => Dv.later L6 z) fun i c b' o e0 e1 e ob _ _ => ⟨by
    rw [upd_ne (show b' ≠ D from fun z => ?_)]
    · exact e
    · obtain ⟨b2, o2, w1, w2, w3, _⟩ := r1.od.h i c e0
      rw [e1] at w1
      cases w1
      rw [z] at w3
      exact nO w3, ob⟩⟩, fun y u h => ⟨by rw [upd_ne (show y ≠ D from fun z => (b.tk y u h).2 (.inr z))]; exact (b.tk y u h).1, (b.tk y u h).2⟩, b.tt⟩
  · obtain ⟨v, y1, y2⟩ := b.rl.dat j d e
    exact ⟨v, y1, Dv.later L6 y2⟩
  · obtain ⟨c, us, y1, y2, y3, y4, y5⟩ := b.rl.own j es e
    refine ⟨c, us, y1, ?_, y3, y4, y5.later L6⟩
    rw [upd_ne (show c ≠ D from fun z => ?_)]
    · exact y2
    · obtain ⟨b', us', w1, w2, w3, _⟩ := r1.own j es e
      rw [y1] at w1
      cases w1
      rw [z] at w3
      exact nO w3
  · rw [upd_ne (y.ne e nS hw0 ww)]
    exact e
  · rw [upd_ne (show x ≠ D from fun z => ?_)]
    · exact b.rl.kp x u e n
    · subst z
      exact Stay.ne (r1.kp _ u e nS) hD
/-- [elt for target in g(..) if ..] over data -/
def dLcY (C : ConY) (m : Nat) (ts : TDa) (tg : Tg) (tt : TDt) (te : TD) (vs : List Nat) : TD := fun E Q => ts E fun as n => ∃ ds L, as = ds.map Ar.d ∧ as.length = m ∧ (∀ d ∈ ds, fltD d = true) ∧ C ds L ∧ dLcL tg tt te (wipeD E.ρ vs) Q L [] n
open Classical in
theorem lcY_low {C : ConY} {m : Nat} {ts : TDa} {tg : Tg} {tt : TDt} {te : TD} {vs : List Nat} {K : PySem.W.Frag} (hv : tgIn tg vs) : ∀ σ H Q, low G RL (dLcY C m ts tg tt te vs) σ H Q → tLcY (tCallY (spYD C m) (lowA G ts)) (tg.g K) (lowT G tt) (low G RD te) vs σ H Q := by
  rintro σ H Q ⟨O, E, Qd, r, im, z⟩
  refine ⟨O, E, _, r, ?_, z⟩
  rintro as n0 xs H1 k1 i1 rv ⟨ds, L, rfl, hl, fl, c, q1⟩
  replace q1 := q1.h
  have r1 := r.step k1 i1
  have old : ∀ y, G.Hs y ≠ none → H1 y ≠ none := fun y h => by
    by_cases q : G.F.S y
    · exact G.F.al _ H1 y i1 q
    · cases w : G.Hs y with
      | none => exact (h w).elim
      | some u => exact Stay.ne (r1.kp y u w q)
  refine ⟨tupT O H1, L, fun b v h => ⟨(tupT_some h).1, (tupT_some h).2.2⟩, ⟨rv.length.trans hl, fun b u h => (tupT_some h).2.2, ds, ar_flt rv fl, c⟩, fun D hD => ?_⟩
  have nD : ¬ O D := fun y => r1.al D y hD
  have nS : ¬ G.F.S D := fun y => nD (r1.sO D y)
  have L0 : Later O H1 (fun x => O x ∨ x = D) (upd H1 D (.lst [])) := later_newO hD
  have r0 : Rel G (fun x => O x ∨ x = D) σ (upd H1 D (.lst [])) ⟨E.ρ, n0⟩ := by
    refine r1.more L0 (fun x y => .inl y) ((r1.aB.upd rfl).or upd_same rfl) (fun x u e _ => same_upd' hD x u e) (G.F.keep _ _ _ r1.str fun x o _ e => same_upd' hD x o e)
  refine ⟨fun i T H2 => (∀ b u, T b = some u → ∃ xs, u = .tup xs) ∧ ∃ n ws acc, BkT G O D H1 (.lst []) σ E.ρ n T H2 ∧ H2 D = some (.lst ws) ∧ DvL (fun x => O x ∨ x = D) H2 ws acc ∧ dLcL0 tg tt te (wipeD E.ρ vs) Qd (L.drop i) acc n,
    ⟨fun b u h => (tupT_some h).2.2, n0, [], [], ⟨Later.refl _ _, Kp.refl _, r0, fun b u h => ?_, fun b u h => (tupT_some h).2.2⟩, upd_same, .nil, by simpa using q1⟩, fun i T H2 ⟨_, n, ws, acc, b, h2, _⟩ => ⟨fun x u h => (b.tk x u h).1, ws, h2⟩, ?_, ?_⟩
  · obtain ⟨h1, h2, _⟩ := tupT_some h
    exact ⟨same_upd' hD b u h1, fun y => y.elim h2 fun y => by rw [y, hD] at h1; cases h1⟩
  · rintro i d T H2 T' x hd ⟨hT, n, ws, acc, b, h2, d2, q2⟩ nw dv
    have hi := (List.getElem?_eq_some_iff.mp hd).1
    rw [List.drop_eq_getElem_cons hi, (List.getElem?_eq_some_iff.mp hd).2] at q2
    obtain ⟨ρ, e, q3⟩ := opt_el q2
    have hT' : ∀ b u, T' b = some u → ∃ xs, u = .tup xs := fun y u h => (nw.2 y u h).1
    have b3 := b.mrg nw
    have h3 : mrg H2 T' D = some (.lst ws) := mrg_some h2
    have d3 : DvL (fun x => O x ∨ x = D) (mrg H2 T') ws acc := d2.later (b.rl.lt fun x u h _ => Stay.of (mrg_some h))
    refine Tg.ok tg (rel_wipe b3.rl vs) (dv_up dv b3.tk) e fun σ' r' hw => ⟨?_, ?_⟩
    · rw [hw vs hv, wipe_twice]
    refine ⟨_, _, _, r', ?_, q3⟩
    rintro bb m4 H4 k4 i4 q4
    have b4 := b3.step k4 i4
    have h4 := k4 _ _ h3 nS
    have d4 := d3.later (b3.rl.lt k4)
    cases bb with
    | true =>
      refine iteT ?_
      rw [if_pos rfl] at q4
      refine ⟨_, _, _, r'.step k4 i4, ?_, q4⟩
      rintro dy k v H5 k5 i5 rv5 ⟨q0, q5⟩
      have b5 := b4.step k5 i5
      have h5 := k5 _ _ h4 nS
      have d5 := d4.later (b4.rl.lt k5)
      refine ⟨ws, h5, sz_lt (by rw [d5.length]; exact q0), fun H'' f => ?_⟩
      have b6 := b5.fill (w := .lst (ws ++ [v])) nS hD nD r1 h5 rfl rfl
      have L6 : Later (fun x => O x ∨ x = D) H5 (fun x => O x ∨ x = D) (upd H5 D (.lst (ws ++ [v]))) := ⟨fun _ z => .inl z, fun x u e n => by rw [upd_ne (show x ≠ D from fun z => n (.inr z))]; exact Stay.of e⟩
      have d6 : DvL (fun x => O x ∨ x = D) (upd H5 D (.lst (ws ++ [v]))) (ws ++ [v]) (acc ++ [dy]) := (d5.app (.cons rv5 .nil)).later L6
      refine ⟨hT', k, ws ++ [v], acc ++ [dy], b6.fg f old r1.al upd_same trivial hT', f.kp D _ upd_same (.inr trivial), d6.mp fun _ _ z => dv_strc z fun y u e s n => ⟨f.kp y u e (.inr s), n⟩, q5⟩
    | false =>
      refine iteF fun H'' f => ?_
      rw [if_neg (by decide)] at q4
      exact ⟨hT', m4, ws, acc, b4.fg f old r1.al h4 trivial hT', f.kp D _ h4 (.inr trivial), d4.mp fun _ _ z => dv_strc z fun y u e s n => ⟨f.kp y u e (.inr s), n⟩, q4⟩
  · rintro T H2 T' ⟨hT, n, ws, acc, b, h2, d2, q2⟩ nw
    have b3 := b.mrg nw
    have d3 : DvL (fun x => O x ∨ x = D) (mrg H2 T') ws acc := d2.later (b.rl.lt fun x u h _ => Stay.of (mrg_some h))
    rw [List.drop_length] at q2
    have kf : Kp G.F.S H1 (mrg H2 T') := fun x u e n => by
      have ne : x ≠ D := fun z => by rw [z, hD] at e; cases e
      exact b3.kp x u (same_upd' hD x u e) fun y => y.elim n ne
    have hD0 : H D = none := by
      cases e0 : H D with
      | none => rfl
      | some u =>
        exact (Stay.ne (k1 D u e0 nS) hD).elim
    exact im _ n _ _ (k1.trans kf) b3.rl.str ⟨D, ws, acc, rfl, rfl, hD0, mrg_some h2, d3⟩ q2
theorem pl_lcY {k m : Nat} {f : Addr} {fd : FuncData} {ps : List Str} {C : ConY} {x : Str} {p pos1 pos : Pos} {e elt target : Expr} {es ifs : List Expr} {scope : Scope} {own : List (Str × Nat)} {ts : TDa} {tg : Tg} {tt : TDt} {te : TD}
    (F : GFnY X.prog X.w X.K X.mg X.base k f fd ps (spYD C m)) (hr : Room (k + 1) X.A) (hm : X.mg x = some (.ref f)) (hk : PySem.W.keepIn X.K (.ref f) = true) (hb : Binds X.K fd ps [])
    (ha : PR X G (e :: es) ts) (hN : X.N.Nodup) (ok : BlkOk X.N X.env.scope scope own)
    (hg : ∀ (s : Shared) (H : Hp) (C : Addr) (cl : List (Str × Addr)) (fp : List Addr), PG (X.blk s H scope (compEnvC scope cl C X.env) fp) target (tg.g X.K)) (ht : ∀ (s : Shared) (H : Hp) (C : Addr) (cl : List (Str × Addr)) (fp : List Addr), PTs (X.blk s H scope (compEnvC scope cl C X.env) fp) ifs (lowT G tt))
    (he : ∀ (s : Shared) (H : Hp) (C : Addr) (cl : List (Str × Addr)) (fp : List Addr), PD (X.blk s H scope (compEnvC scope cl C X.env) fp) G elt te) (hv : tgIn tg (own.map (·.2))) (hnc : ∀ y ∈ scope.names, y.2 ≠ .cell := by decide +kernel)
    (gl : Gl X x := by rfl) (hdb : (x == ("__debug__" : Str)) = false := by decide) (hse : starEach (e :: es) X.env = (false, eval e X.env) :: starEach es X.env := by rfl) (hpl : (backTo pos1 (starEach es X.env)).any (·.1) = false := by rfl)
    (hs : ∀ y, foldedSetIterable (.Call (.Name x p) (e :: es) [] pos1) X.env y = pure y := by intro _; rfl) :
    PL X G (.ListComp elt [⟨target, .Call (.Name x p) (e :: es) [] pos1, ifs, 0⟩] scope pos) (dLcY C m ts tg tt te (own.map (·.2))) := PE.wk (pe_lcY hN (pyn_call F (hr.mono (by omega)) gl hm hk hb ha hdb hse hpl) hr ok hnc hg ht he hs) (lcY_low hv)
/-- y = [..] -/
theorem z_ownLcY {k m i : Nat} {y : Str} {py : Pos} {f : Addr} {fd : FuncData} {ps : List Str} {C : ConY} {x : Str} {p pos1 pos spos : Pos} {e elt target : Expr} {es ifs : List Expr} {scope : Scope} {own : List (Str × Nat)} {ts : TDa} {tg : Tg} {tt : TDt} {te : TD}
    (F : GFnY X.prog X.w X.K X.mg X.base k f fd ps (spYD C m)) (hr : Room (k + 1) X.A) (hm : X.mg x = some (.ref f)) (hk : PySem.W.keepIn X.K (.ref f) = true) (hb : Binds X.K fd ps [])
    (ha : PR X G (e :: es) ts) (hN : X.N.Nodup) (hy : X.N[i]? = some y) (hyl : X.env.scope.names.lookup y = some .local) (hsw : swapsWith (.ListComp elt [⟨target, .Call (.Name x p) (e :: es) [] pos1, ifs, 0⟩] scope pos) (some (.Name y py)) spos.line X.env = pure true) (ok : BlkOk X.N X.env.scope scope own)
    (hg : ∀ (s : Shared) (H : Hp) (C : Addr) (cl : List (Str × Addr)) (fp : List Addr), PG (X.blk s H scope (compEnvC scope cl C X.env) fp) target (tg.g X.K)) (ht : ∀ (s : Shared) (H : Hp) (C : Addr) (cl : List (Str × Addr)) (fp : List Addr), PTs (X.blk s H scope (compEnvC scope cl C X.env) fp) ifs (lowT G tt))
    (he : ∀ (s : Shared) (H : Hp) (C : Addr) (cl : List (Str × Addr)) (fp : List Addr), PD (X.blk s H scope (compEnvC scope cl C X.env) fp) G elt te) (hv : tgIn tg (own.map (·.2))) (hnc : ∀ y ∈ scope.names, y.2 ≠ .cell := by decide +kernel)
    (gl : Gl X x := by rfl) (hdb : (x == ("__debug__" : Str)) = false := by decide) (hse : starEach (e :: es) X.env = (false, eval e X.env) :: starEach es X.env := by rfl) (hpl : (backTo pos1 (starEach es X.env)).any (·.1) = false := by rfl)
    (hs : ∀ y, foldedSetIterable (.Call (.Name x p) (e :: es) [] pos1) X.env y = pure y := by intro _; rfl) :
    PZ X G (.Assign [.Name y py] (.ListComp elt [⟨target, .Call (.Name x p) (e :: es) [] pos1, ifs, 0⟩] scope pos) spos) (zOwn i (dLcY C m ts tg tt te (own.map (·.2)))) := PS.wk (ps_setLcY hN hy hyl hsw (pyn_call F (hr.mono (by omega)) gl hm hk hb ha hdb hse hpl) hr ok hnc hg ht he hs) (own_core (lcY_low hv))
end
end Dl
/-! dicts made over generators, over data; their items -/
namespace Dl
open PySem PySem.Spec PyProof.Rows L2 Gd GenW Gf
section
variable {X : Cx} {G : Gx}
def plainD : PyData → Bool
  | .none => true
  | .bool _ => true
  | .int _ => true
  | .str _ => true
  | _ => false
theorem plain_dv {O : Addr → Prop} {H : Hp} {v : V} {d : PyData} (h : Dv O H v d) (p : plainD d = true) : plainV v = true ∧ vD v = d := by
  cases h with
  | non => exact ⟨rfl, rfl⟩
  | bl b => exact ⟨rfl, rfl⟩
  | int i => exact ⟨rfl, rfl⟩
  | str x => exact ⟨rfl, rfl⟩
  | lst => cases p
  | tup => cases p
  | dct => cases p
  | dcv => cases p
def dDcL0 (tg : Tg) (tt : TDt) (tk tv : TD) (ρ0 : List Sl) (Q : PyData → Nat → Prop) : List PyData → List (PyData × PyData) → Nat → Prop
  | [], acc, n => Q (.dict acc) n
  | d :: ds, acc, n => opt (tg.put d ρ0) fun ρ => tt ⟨ρ, n⟩ fun b m => if b = true then tk ⟨ρ, m⟩ fun y k => tv ⟨ρ, k⟩ fun z l => (∃ i : Int, y = .int i) ∧ (∀ p ∈ acc, p.1 ≠ y) ∧ plainD z = true ∧ acc.length < 100000 ∧ dDcL0 tg tt tk tv ρ0 Q ds (acc ++ [(y, z)]) l else dDcL0 tg tt tk tv ρ0 Q ds acc m
structure dDcL (tg : Tg) (tt : TDt) (tk tv : TD) (ρ0 : List Sl) (Q : PyData → Nat → Prop) (ds : List PyData) (acc : List (PyData × PyData)) (n : Nat) : Prop where
  h : dDcL0 tg tt tk tv ρ0 Q ds acc n
def dDcY (C : ConY) (m : Nat) (ts : TDa) (tg : Tg) (tt : TDt) (tk tv : TD) (vs : List Nat) : TD := fun E Q => ts E fun as n => ∃ ds L, as = ds.map Ar.d ∧ as.length = m ∧ (∀ d ∈ ds, fltD d = true) ∧ C ds L ∧ dDcL tg tt tk tv (wipeD E.ρ vs) Q L [] n
open Classical in
theorem dcY_low {C : ConY} {m : Nat} {ts : TDa} {tg : Tg} {tt : TDt} {tk tv : TD} {vs : List Nat} {K : PySem.W.Frag} (hv : tgIn tg vs) : ∀ σ H Q, low G RD (dDcY C m ts tg tt tk tv vs) σ H Q → tDcY (tCallY (spYD C m) (lowA G ts)) (tg.g K) (lowT G tt) (low G RD tk) (low G RD tv) vs σ H Q := by
  rintro σ H Q ⟨O, E, Qd, r, im, z⟩
  refine ⟨O, E, _, r, ?_, z⟩
  rintro as n0 xs H1 k1 i1 rv ⟨ds, L, rfl, hl, fl, c, q1⟩
  replace q1 := q1.h
  have r1 := r.step k1 i1
  have old : ∀ y, G.Hs y ≠ none → H1 y ≠ none := fun y h => by
    by_cases q : G.F.S y
    · exact G.F.al _ H1 y i1 q
    · cases w : G.Hs y with
      | none => exact (h w).elim
      | some u => exact Stay.ne (r1.kp y u w q)
  refine ⟨tupT O H1, L, fun b v h => ⟨(tupT_some h).1, (tupT_some h).2.2⟩, ⟨rv.length.trans hl, fun b u h => (tupT_some h).2.2, ds, ar_flt rv fl, c⟩, fun D hD => ?_⟩
  have nD : ¬ O D := fun y => r1.al D y hD
  have nS : ¬ G.F.S D := fun y => nD (r1.sO D y)
  have L0 : Later O H1 (fun x => O x ∨ x = D) (upd H1 D (.dK [])) := later_newO hD
  have r0 : Rel G (fun x => O x ∨ x = D) σ (upd H1 D (.dK [])) ⟨E.ρ, n0⟩ := by
    refine r1.more L0 (fun x y => .inl y) ((r1.aB.upd rfl).or upd_same rfl) (fun x u e _ => same_upd' hD x u e) (G.F.keep _ _ _ r1.str fun x o _ e => same_upd' hD x o e)
  refine ⟨fun i T H2 => (∀ b u, T b = some u → ∃ xs, u = .tup xs) ∧ ∃ n, ∃ kvs : List (Key × V), BkT G O D H1 (.dK []) σ E.ρ n T H2 ∧ H2 D = some (.dK kvs) ∧ (∀ p ∈ kvs, plainV p.2 = true) ∧ dDcL0 tg tt tk tv (wipeD E.ρ vs) Qd (L.drop i) (kvs.map fun p => (kD p.1, vD p.2)) n,
    ⟨fun b u h => (tupT_some h).2.2, n0, [], ⟨Later.refl _ _, Kp.refl _, r0, fun b u h => ?_, fun b u h => (tupT_some h).2.2⟩, upd_same, (fun p h => absurd h List.not_mem_nil), by simpa using q1⟩, fun i T H2 ⟨_, n, kvs, b, h2, _⟩ => ⟨fun x u h => (b.tk x u h).1, kvs, h2⟩, ?_, ?_⟩
  · obtain ⟨h1, h2, _⟩ := tupT_some h
    exact ⟨same_upd' hD b u h1, fun y => y.elim h2 fun y => by rw [y, hD] at h1; cases h1⟩
  · rintro i d T H2 T' x hd ⟨hT, n, kvs, b, h2, d2, q2⟩ nw dv
    have hi := (List.getElem?_eq_some_iff.mp hd).1
    rw [List.drop_eq_getElem_cons hi, (List.getElem?_eq_some_iff.mp hd).2] at q2
    obtain ⟨ρ, e, q3⟩ := opt_el q2
    have hT' : ∀ b u, T' b = some u → ∃ xs, u = .tup xs := fun y u h => (nw.2 y u h).1
    have b3 := b.mrg nw
    have h3 : mrg H2 T' D = some (.dK kvs) := mrg_some h2
    refine Tg.ok tg (rel_wipe b3.rl vs) (dv_up dv b3.tk) e fun σ' r' hw => ⟨?_, ?_⟩
    · rw [hw vs hv, wipe_twice]
    refine ⟨_, _, _, r', ?_, q3⟩
    rintro bb m4 H4 k4 i4 q4
    have b4 := b3.step k4 i4
    have h4 := k4 _ _ h3 nS
    cases bb with
    | true =>
      refine iteT ?_
      rw [if_pos rfl] at q4
      refine ⟨_, _, _, r'.step k4 i4, ?_, q4⟩
      rintro dy k v H5 k5 i5 rv5 q5
      have b5 := b4.step k5 i5
      have h5 := k5 _ _ h4 nS
      refine ⟨_, _, _, (r'.step k4 i4).step k5 i5, ?_, q5⟩
      rintro dz k2 v2 H6 k6 i6 rv6 ⟨⟨j, rfl⟩, fresh, pz, q0, q6⟩
      have b6 := b5.step k6 i6
      have h6 := k6 _ _ h5 nS
      obtain ⟨pv, ev⟩ := plain_dv rv6 pz
      have vn : valV kvs (Sum.inl j : Key) = none := by
        cases w : valV kvs (Sum.inl j : Key) with
        | none => rfl
        | some y =>
          have := valV_any (Sum.inl j : Key) kvs
          rw [w] at this
          obtain ⟨p, hp, hq⟩ := List.any_eq_true.mp this
          have hq : p.1 = Sum.inl j := of_decide_eq_true hq
          refine absurd ?_ (fresh (kD p.1, vD p.2) (List.mem_map.mpr ⟨p, hp, rfl⟩))
          rw [hq]
          rfl
      have ev5 : v = V.int j := by
        have q : Dv _ _ v (.int j) := rv5
        cases q
        rfl
      refine ⟨kvs, Sum.inl j, ev5, h6, sz_lt (by rw [List.length_map] at q0; exact q0), fun H'' f => ?_⟩
      have b7 := b6.fill (w := .dK (putK kvs (Sum.inl j) v2)) nS hD nD r1 h6 rfl rfl
      refine ⟨hT', k2, putK kvs (Sum.inl j) v2, b7.fg f old r1.al upd_same trivial hT', f.kp D _ upd_same (.inr trivial), ?_, ?_⟩
      · rw [putK_new v2 vn]
        intro p hp
        rcases List.mem_append.mp hp with h | h
        · exact d2 p h
        · rw [List.mem_singleton.mp h]
          exact pv
      · rw [putK_new v2 vn, List.map_append]
        show dDcL0 tg tt tk tv (wipeD E.ρ vs) Qd (L.drop (i + 1)) ((kvs.map fun p => (kD p.1, vD p.2)) ++ [(kD (Sum.inl j), vD v2)]) k2
        rw [ev]
        exact q6
    | false =>
      refine iteF fun H'' f => ?_
      rw [if_neg (by decide)] at q4
      exact ⟨hT', m4, kvs, b4.fg f old r1.al h4 trivial hT', f.kp D _ h4 (.inr trivial), d2, q4⟩
  · rintro T H2 T' ⟨hT, n, kvs, b, h2, d2, q2⟩ nw
    have b3 := b.mrg nw
    rw [List.drop_length] at q2
    have kf : Kp G.F.S H1 (mrg H2 T') := fun x u e n => by
      have ne : x ≠ D := fun z => by rw [z, hD] at e; cases e
      exact b3.kp x u (same_upd' hD x u e) fun y => y.elim n ne
    exact im _ n _ _ (k1.trans kf) b3.rl.str (.dct (mrg_some h2) nD d2) q2
theorem pd_dcY {k m : Nat} {f : Addr} {fd : FuncData} {ps : List Str} {C : ConY} {x : Str} {p pos1 pos : Pos} {e kx vx target : Expr} {es ifs : List Expr} {scope : Scope} {own : List (Str × Nat)} {ts : TDa} {tg : Tg} {tt : TDt} {tk tv : TD}
    (F : GFnY X.prog X.w X.K X.mg X.base k f fd ps (spYD C m)) (hr : Room (k + 1) X.A) (hm : X.mg x = some (.ref f)) (hk : PySem.W.keepIn X.K (.ref f) = true) (hb : Binds X.K fd ps [])
    (ha : PR X G (e :: es) ts) (hN : X.N.Nodup) (ok : BlkOk X.N X.env.scope scope own)
    (hg : ∀ (s : Shared) (H : Hp) (C : Addr) (cl : List (Str × Addr)) (fp : List Addr), PG (X.blk s H scope (compEnvC scope cl C X.env) fp) target (tg.g X.K)) (ht : ∀ (s : Shared) (H : Hp) (C : Addr) (cl : List (Str × Addr)) (fp : List Addr), PTs (X.blk s H scope (compEnvC scope cl C X.env) fp) ifs (lowT G tt))
    (hkx : ∀ (s : Shared) (H : Hp) (C : Addr) (cl : List (Str × Addr)) (fp : List Addr), PD (X.blk s H scope (compEnvC scope cl C X.env) fp) G kx tk)
    (he : ∀ (s : Shared) (H : Hp) (C : Addr) (cl : List (Str × Addr)) (fp : List Addr), PD (X.blk s H scope (compEnvC scope cl C X.env) fp) G vx tv) (hv : tgIn tg (own.map (·.2))) (hnc : ∀ y ∈ scope.names, y.2 ≠ .cell := by decide +kernel)
    (gl : Gl X x := by rfl) (hdb : (x == ("__debug__" : Str)) = false := by decide) (hse : starEach (e :: es) X.env = (false, eval e X.env) :: starEach es X.env := by rfl) (hpl : (backTo pos1 (starEach es X.env)).any (·.1) = false := by rfl)
    (hs : ∀ y, foldedSetIterable (.Call (.Name x p) (e :: es) [] pos1) X.env y = pure y := by intro _; rfl) :
    PD X G (.DictComp kx vx [⟨target, .Call (.Name x p) (e :: es) [] pos1, ifs, 0⟩] scope pos) (dDcY C m ts tg tt tk tv (own.map (·.2))) := PE.wk (pe_dcY hN (pyn_call F (hr.mono (by omega)) gl hm hk hb ha hdb hse hpl) hr ok hnc hg ht hkx he hs) (dcY_low hv)
def dDvL0 (tg : Tg) (tt : TDt) (tk tv : TD) (ρ0 : List Sl) (Q : PyData → Nat → Prop) : List PyData → List (PyData × PyData) → Nat → Prop
  | [], acc, n => Q (.dict ((noShow, .none) :: acc)) n
  | d :: ds, acc, n => opt (tg.put d ρ0) fun ρ => tt ⟨ρ, n⟩ fun b m => if b = true then tk ⟨ρ, m⟩ fun y k => tv ⟨ρ, k⟩ fun z l => (∃ i : Int, y = .int i) ∧ (∀ p ∈ acc, p.1 ≠ y) ∧ acc.length < 100000 ∧ dDvL0 tg tt tk tv ρ0 Q ds (acc ++ [(y, z)]) l else dDvL0 tg tt tk tv ρ0 Q ds acc m
structure dDvL (tg : Tg) (tt : TDt) (tk tv : TD) (ρ0 : List Sl) (Q : PyData → Nat → Prop) (ds : List PyData) (acc : List (PyData × PyData)) (n : Nat) : Prop where
  h : dDvL0 tg tt tk tv ρ0 Q ds acc n
def dDvY (C : ConY) (m : Nat) (ts : TDa) (tg : Tg) (tt : TDt) (tk tv : TD) (vs : List Nat) : TD := fun E Q => ts E fun as n => ∃ ds L, as = ds.map Ar.d ∧ as.length = m ∧ (∀ d ∈ ds, fltD d = true) ∧ C ds L ∧ dDvL tg tt tk tv (wipeD E.ρ vs) Q L [] n
open Classical in
theorem dvY_low {C : ConY} {m : Nat} {ts : TDa} {tg : Tg} {tt : TDt} {tk tv : TD} {vs : List Nat} {K : PySem.W.Frag} (hv : tgIn tg vs) : ∀ σ H Q, low G RD (dDvY C m ts tg tt tk tv vs) σ H Q → tDcY (tCallY (spYD C m) (lowA G ts)) (tg.g K) (lowT G tt) (low G RD tk) (low G RD tv) vs σ H Q := by
  rintro σ H Q ⟨O, E, Qd, r, im, z⟩
  refine ⟨O, E, _, r, ?_, z⟩
  rintro as n0 xs H1 k1 i1 rv ⟨ds, L, rfl, hl, fl, c, q1⟩
  replace q1 := q1.h
  have r1 := r.step k1 i1
  have old : ∀ y, G.Hs y ≠ none → H1 y ≠ none := fun y h => by
    by_cases q : G.F.S y
    · exact G.F.al _ H1 y i1 q
    · cases w : G.Hs y with
      | none => exact (h w).elim
      | some u => exact Stay.ne (r1.kp y u w q)
  refine ⟨tupT O H1, L, fun b v h => ⟨(tupT_some h).1, (tupT_some h).2.2⟩, ⟨rv.length.trans hl, fun b u h => (tupT_some h).2.2, ds, ar_flt rv fl, c⟩, fun D hD => ?_⟩
  have nD : ¬ O D := fun y => r1.al D y hD
  have nS : ¬ G.F.S D := fun y => nD (r1.sO D y)
  have L0 : Later O H1 (fun x => O x ∨ x = D) (upd H1 D (.dK [])) := later_newO hD
  have r0 : Rel G (fun x => O x ∨ x = D) σ (upd H1 D (.dK [])) ⟨E.ρ, n0⟩ := by
    refine r1.more L0 (fun x y => .inl y) ((r1.aB.upd rfl).or upd_same rfl) (fun x u e _ => same_upd' hD x u e) (G.F.keep _ _ _ r1.str fun x o _ e => same_upd' hD x o e)
  refine ⟨fun i T H2 => (∀ b u, T b = some u → ∃ xs, u = .tup xs) ∧ ∃ n, ∃ kvs : List (Key × V), ∃ ds : List PyData, BkT G O D H1 (.dK []) σ E.ρ n T H2 ∧ H2 D = some (.dK kvs) ∧ DvL (fun x => O x ∨ x = D) H2 (kvs.map (·.2)) ds ∧ dDvL0 tg tt tk tv (wipeD E.ρ vs) Qd (L.drop i) (List.zipWith (fun x d => (kD x.1, d)) kvs ds) n,
    ⟨fun b u h => (tupT_some h).2.2, n0, [], [], ⟨Later.refl _ _, Kp.refl _, r0, fun b u h => ?_, fun b u h => (tupT_some h).2.2⟩, upd_same, .nil, by simpa using q1⟩, fun i T H2 ⟨_, n, kvs, _, b, h2, _⟩ => ⟨fun x u h => (b.tk x u h).1, kvs, h2⟩, ?_, ?_⟩
  · obtain ⟨h1, h2, _⟩ := tupT_some h
    exact ⟨same_upd' hD b u h1, fun y => y.elim h2 fun y => by rw [y, hD] at h1; cases h1⟩
  · rintro i d T H2 T' x hd ⟨hT, n, kvs, es, b, h2, d2, q2⟩ nw dv
    have hi := (List.getElem?_eq_some_iff.mp hd).1
    rw [List.drop_eq_getElem_cons hi, (List.getElem?_eq_some_iff.mp hd).2] at q2
    obtain ⟨ρ, e, q3⟩ := opt_el q2
    have hT' : ∀ b u, T' b = some u → ∃ xs, u = .tup xs := fun y u h => (nw.2 y u h).1
    have b3 := b.mrg nw
    have h3 : mrg H2 T' D = some (.dK kvs) := mrg_some h2
    have d3 : DvL (fun x => O x ∨ x = D) (mrg H2 T') (kvs.map (·.2)) es := d2.later (b.rl.lt fun x u h _ => Stay.of (mrg_some h))
    refine Tg.ok tg (rel_wipe b3.rl vs) (dv_up dv b3.tk) e fun σ' r' hw => ⟨?_, ?_⟩
    · rw [hw vs hv, wipe_twice]
    refine ⟨_, _, _, r', ?_, q3⟩
    rintro bb m4 H4 k4 i4 q4
    have b4 := b3.step k4 i4
    have h4 := k4 _ _ h3 nS
    have d4 := d3.later (b3.rl.lt k4)
    cases bb with
    | true =>
      refine iteT ?_
      rw [if_pos rfl] at q4
      refine ⟨_, _, _, r'.step k4 i4, ?_, q4⟩
      rintro dy k v H5 k5 i5 rv5 q5
      have b5 := b4.step k5 i5
      have h5 := k5 _ _ h4 nS
      have d5 := d4.later (b4.rl.lt k5)
      refine ⟨_, _, _, (r'.step k4 i4).step k5 i5, ?_, q5⟩
      rintro dz k2 v2 H6 k6 i6 rv6 ⟨⟨j, rfl⟩, fresh, q0, q6⟩
      have b6 := b5.step k6 i6
      have h6 := k6 _ _ h5 nS
      have d6 := d5.later (b5.rl.lt k6)
      have ll : kvs.length = es.length := by have := d2.length; rwa [List.length_map] at this
      have vn : valV kvs (Sum.inl j : Key) = none := by
        cases w : valV kvs (Sum.inl j : Key) with
        | none => rfl
        | some y =>
          have := valV_any (Sum.inl j : Key) kvs
          rw [w] at this
          obtain ⟨p, hp, hq⟩ := List.any_eq_true.mp this
          have hq : p.1 = Sum.inl j := of_decide_eq_true hq
          obtain ⟨i, hi⟩ := List.mem_iff_getElem?.mp hp
          have hi' := (List.getElem?_eq_some_iff.mp hi).1
          refine absurd ?_ (fresh (kD p.1, es[i]'(by omega)) (List.mem_iff_getElem?.mpr ⟨i, ?_⟩))
          · rw [hq]
            rfl
          · rw [List.getElem?_zipWith, hi, List.getElem?_eq_getElem (by omega)]
      have ev5 : v = V.int j := by
        have q : Dv _ _ v (.int j) := rv5
        cases q
        rfl
      refine ⟨kvs, Sum.inl j, ev5, h6, sz_lt (by rw [List.length_zipWith] at q0; omega), fun H'' f => ?_⟩
      have b7 := b6.fill (w := .dK (putK kvs (Sum.inl j) v2)) nS hD nD r1 h6 rfl rfl
      have L7 : Later (fun x => O x ∨ x = D) H6 (fun x => O x ∨ x = D) (upd H6 D (.dK (putK kvs (Sum.inl j) v2))) := ⟨fun _ z => .inl z, fun x u e n => by rw [upd_ne (show x ≠ D from fun z => n (.inr z))]; exact Stay.of e⟩
      have d7 : DvL (fun x => O x ∨ x = D) (upd H6 D (.dK (putK kvs (Sum.inl j) v2))) (kvs.map (·.2) ++ [v2]) (es ++ [dz]) := (d6.app (.cons rv6 .nil)).later L7
      have ep : putK kvs (Sum.inl j) v2 = kvs ++ [(Sum.inl j, v2)] := putK_new v2 vn
      refine ⟨hT', k2, putK kvs (Sum.inl j) v2, es ++ [dz], b7.fg f old r1.al upd_same trivial hT', f.kp D _ upd_same (.inr trivial), ?_, ?_⟩
      · have d8 : DvL (fun x => O x ∨ x = D) H'' (kvs.map (·.2) ++ [v2]) (es ++ [dz]) := d7.mp fun _ _ z => dv_strc z fun y u e s n => ⟨f.kp y u e (.inr s), n⟩
        rw [ep, List.map_append]
        exact d8
      · rw [ep, List.zipWith_append ll]
        exact q6
    | false =>
      refine iteF fun H'' f => ?_
      rw [if_neg (by decide)] at q4
      exact ⟨hT', m4, kvs, es, b4.fg f old r1.al h4 trivial hT', f.kp D _ h4 (.inr trivial), d4.mp fun _ _ z => dv_strc z fun y u e s n => ⟨f.kp y u e (.inr s), n⟩, q4⟩
  · rintro T H2 T' ⟨hT, n, kvs, es, b, h2, d2, q2⟩ nw
    have b3 := b.mrg nw
    rw [List.drop_length] at q2
    have kf : Kp G.F.S H1 (mrg H2 T') := fun x u e n => by
      have ne : x ≠ D := fun z => by rw [z, hD] at e; cases e
      exact b3.kp x u (same_upd' hD x u e) fun y => y.elim n ne
    have d3 : DvL (fun x => O x ∨ x = D) (mrg H2 T') (kvs.map (·.2)) es := d2.later (b.rl.lt fun x u h _ => Stay.of (mrg_some h))
    have ll : kvs.length = es.length := by have := d2.length; rwa [List.length_map] at this
    refine im _ n _ _ (k1.trans kf) b3.rl.str (.dcv (mrg_some h2) nD ll fun i x d h1 h2 => Dv.less' (fun b z => .inl z) (d3.ix i x.2 d ?_ h2)) q2
    rw [List.getElem?_map, h1]
    rfl
theorem pd_dvY {k m : Nat} {f : Addr} {fd : FuncData} {ps : List Str} {C : ConY} {x : Str} {p pos1 pos : Pos} {e kx vx target : Expr} {es ifs : List Expr} {scope : Scope} {own : List (Str × Nat)} {ts : TDa} {tg : Tg} {tt : TDt} {tk tv : TD}
    (F : GFnY X.prog X.w X.K X.mg X.base k f fd ps (spYD C m)) (hr : Room (k + 1) X.A) (hm : X.mg x = some (.ref f)) (hk : PySem.W.keepIn X.K (.ref f) = true) (hb : Binds X.K fd ps [])
    (ha : PR X G (e :: es) ts) (hN : X.N.Nodup) (ok : BlkOk X.N X.env.scope scope own)
    (hg : ∀ (s : Shared) (H : Hp) (C : Addr) (cl : List (Str × Addr)) (fp : List Addr), PG (X.blk s H scope (compEnvC scope cl C X.env) fp) target (tg.g X.K)) (ht : ∀ (s : Shared) (H : Hp) (C : Addr) (cl : List (Str × Addr)) (fp : List Addr), PTs (X.blk s H scope (compEnvC scope cl C X.env) fp) ifs (lowT G tt))
    (hkx : ∀ (s : Shared) (H : Hp) (C : Addr) (cl : List (Str × Addr)) (fp : List Addr), PD (X.blk s H scope (compEnvC scope cl C X.env) fp) G kx tk)
    (he : ∀ (s : Shared) (H : Hp) (C : Addr) (cl : List (Str × Addr)) (fp : List Addr), PD (X.blk s H scope (compEnvC scope cl C X.env) fp) G vx tv) (hv : tgIn tg (own.map (·.2))) (hnc : ∀ y ∈ scope.names, y.2 ≠ .cell := by decide +kernel)
    (gl : Gl X x := by rfl) (hdb : (x == ("__debug__" : Str)) = false := by decide) (hse : starEach (e :: es) X.env = (false, eval e X.env) :: starEach es X.env := by rfl) (hpl : (backTo pos1 (starEach es X.env)).any (·.1) = false := by rfl)
    (hs : ∀ y, foldedSetIterable (.Call (.Name x p) (e :: es) [] pos1) X.env y = pure y := by intro _; rfl) :
    PD X G (.DictComp kx vx [⟨target, .Call (.Name x p) (e :: es) [] pos1, ifs, 0⟩] scope pos) (dDvY C m ts tg tt tk tv (own.map (·.2))) := PE.wk (pe_dcY hN (pyn_call F (hr.mono (by omega)) gl hm hk hb ha hdb hse hpl) hr ok hnc hg ht hkx he hs) (dvY_low hv)
theorem units1 {k : Nat} {A : Around} (hr : Room k A) : A.units + 1 < cLine := by have := hr.un; omega
def isIntD (j : Int) : PyData → Bool
  | .int i => decide (i = j)
  | _ => false
/-- d[i], the key an int -/
def dDix (ta tb : TD) : TD := fun E Q => ta E fun d n => tb ⟨E.ρ, n⟩ fun i m => ∃ kvs j v k, d = .dict kvs ∧ i = .int j ∧ kvs.find? (fun p => isIntD j p.1) = some (k, v) ∧ Q v m
theorem find_val {j : Int} {v k : PyData} : ∀ {kvs : List (Key × V)}, (kvs.map fun p => (kD p.1, vD p.2)).find? (fun p => isIntD j p.1) = some (k, v) → ∃ w, valV kvs (Sum.inl j : Key) = some w ∧ vD w = v ∧ ∃ p ∈ kvs, p.2 = w
  | [], h => by cases h
  | p :: kvs, h => by
    rw [List.map_cons, List.find?_cons] at h
    by_cases e : p.1 = Sum.inl j
    · have : isIntD j (kD p.1) = true := by rw [e]; exact decide_eq_true rfl
      rw [this] at h
      cases h
      exact ⟨p.2, valV_pos e, rfl, p, List.mem_cons_self, rfl⟩
    · have : isIntD j (kD p.1) = false := by
        cases q : p.1 with
        | inl i => exact decide_eq_false fun z => e (by rw [q, z])
        | inr x => rfl
      rw [this] at h
      obtain ⟨w, h1, h2, q, hq, h3⟩ := find_val h
      exact ⟨w, (valV_neg e).trans h1, h2, q, List.mem_cons_of_mem _ hq, h3⟩
theorem find_zip {j : Int} {v k : PyData} : ∀ {kvs : List (Key × V)} {ds : List PyData}, kvs.length = ds.length → (List.zipWith (fun (x : Key × V) d => (kD x.1, d)) kvs ds).find? (fun p => isIntD j p.1) = some (k, v) → ∃ (i : Nat) (x : Key × V), kvs[i]? = some x ∧ ds[i]? = some v ∧ valV kvs (Sum.inl j : Key) = some x.2
  | [], _, _, h => by simp at h
  | p :: kvs, [], h0, _ => by simp at h0
  | p :: kvs, d :: ds, h0, h => by
    rw [List.zipWith_cons_cons, List.find?_cons] at h
    by_cases e : p.1 = Sum.inl j
    · have : isIntD j (kD p.1) = true := by rw [e]; exact decide_eq_true rfl
      rw [this] at h
      cases h
      exact ⟨0, p, rfl, rfl, valV_pos e⟩
    · have : isIntD j (kD p.1) = false := by
        cases q : p.1 with
        | inl i => exact decide_eq_false fun z => e (by rw [q, z])
        | inr x => rfl
      rw [this] at h
      obtain ⟨i, x, h1, h2, h3⟩ := find_zip (by simpa using h0) h
      exact ⟨i + 1, x, h1, h2, (valV_neg e).trans h3⟩
theorem dv_plain {O : Addr → Prop} {H : Hp} {w : V} (p : plainV w = true) : Dv O H w (vD w) := by
  cases w with
  | non => exact .non
  | bl b => exact .bl b
  | int i => exact .int i
  | str x => exact .str x
  | _ => cases p
theorem pd_dix {a b : Expr} {ta tb : TD} {pos : Pos} (hu : X.A.units + 1 < cLine) (ha : PD X G a ta) (hb : PD X G b tb) (hs : NoSl b) : PD X G (.Subscript a b pos) (dDix ta tb) := PE.wk (pe_dget hu ha hb hs) fun σ H Q ⟨O, E, Qd, r, im, z⟩ => by
  refine ⟨O, E, _, r, ?_, z⟩
  rintro d n v H1 k1 i1 rv q1
  refine ⟨O, _, _, r.step k1 i1, ?_, q1⟩
  rintro i m u H2 k2 i2 ru ⟨kvs, j, w, kk, rfl, rfl, e, q⟩
  have rv2 : Dv O H2 v (.dict kvs) := Dv.later ((r.step k1 i1).lt k2) rv
  have eu : u = V.int j := by
    have q : Dv _ _ u (.int j) := ru
    cases q
    rfl
  subst eu
  have key : ∀ {dd}, Dv O H2 v dd → dd = .dict kvs → ∃ a z, v = .ref a ∧ DGet H2 a (.int j) (some z) ∧ Dv O H2 z w := by
    intro dd h e'
    cases h with
    | dct h1 h2 h3 =>
      cases e'
      obtain ⟨w', w1, rfl, p, hp, rfl⟩ := find_val e
      refine ⟨_, p.2, rfl, ?_, dv_plain (h3 p hp)⟩
      rw [← w1]
      exact DGet.k (k := Sum.inl j) h1
    | dcv h1 h2 h3 h4 =>
      cases e'
      rw [List.find?_cons] at e
      have e := (show List.find? (fun p => isIntD j p.1) _ = some (kk, w) from e)
      obtain ⟨i, x, e1, e2, e3⟩ := find_zip h3 e
      refine ⟨_, x.2, rfl, ?_, h4 i x w e1 e2⟩
      rw [← e3]
      exact DGet.k (k := Sum.inl j) h1
    | _ => cases e'
  obtain ⟨a, z, rfl, g, dz⟩ := key rv2 rfl
  exact ⟨a, z, rfl, g, im _ m _ H2 (k1.trans k2) i2 dz q⟩
theorem dc_M {α : Type} {tg : Tg} {tt : TDt} {tk tv : TD} {ρ0 : List Sl} {Q : PyData → Nat → Prop} (xs : List α) (e : α → PyData) (kf : α → Int) (vf : α → PyData) {n : Nat}
    (h : ∀ x ∈ xs, ∃ ρ, tg.put (e x) ρ0 = some ρ ∧ (∀ (n : Nat) (R : Bool → Nat → Prop), R true n → tt ⟨ρ, n⟩ R) ∧ (∀ (n : Nat) (R : PyData → Nat → Prop), R (.int (kf x)) n → tk ⟨ρ, n⟩ R) ∧ (∀ (n : Nat) (R : PyData → Nat → Prop), R (vf x) n → tv ⟨ρ, n⟩ R))
    (pl : ∀ x ∈ xs, plainD (vf x) = true) (nd : (xs.map kf).Nodup) (hl : xs.length ≤ 100000) (q : Q (.dict (xs.map fun x => (.int (kf x), vf x))) n) : dDcL tg tt tk tv ρ0 Q (xs.map e) [] n := by
  have key : ∀ (post pre : List α), pre ++ post = xs → dDcL0 tg tt tk tv ρ0 Q (post.map e) (pre.map fun x => (PyData.int (kf x), vf x)) n := by
    intro post
    induction post with
    | nil =>
      intro pre hp
      rw [List.append_nil] at hp
      subst hp
      exact q
    | cons x post ih =>
      intro pre hp
      have hx : x ∈ xs := by rw [← hp]; exact List.mem_append_right _ List.mem_cons_self
      obtain ⟨ρ, h1, h2, h3, h4⟩ := h x hx
      refine opt_of h1 (h2 n _ ?_)
      rw [if_pos rfl]
      refine h3 n _ (h4 n _ ⟨⟨_, rfl⟩, fun p hp' z => ?_, pl x hx, ?_, ?_⟩)
      · obtain ⟨y, hy, rfl⟩ := List.mem_map.mp hp'
        have z : kf y = kf x := by
          have z : PyData.int (kf y) = .int (kf x) := z
          exact PyData.int.inj z
        rw [← hp, List.map_append, List.nodup_append] at nd
        exact nd.2.2 (kf y) (List.mem_map.mpr ⟨y, hy, rfl⟩) (kf x) (List.mem_map.mpr ⟨x, List.mem_cons_self, rfl⟩) z
      · rw [List.length_map]
        have : pre.length + (post.length + 1) = xs.length := by rw [← hp, List.length_append, List.length_cons]
        omega
      · have := ih (pre ++ [x]) (by rw [List.append_assoc]; exact hp)
        rw [List.map_append] at this
        exact this
  exact ⟨by simpa using key xs [] rfl⟩
theorem dv_M {α : Type} {tg : Tg} {tt : TDt} {tk tv : TD} {ρ0 : List Sl} {Q : PyData → Nat → Prop} (xs : List α) (e : α → PyData) (kf : α → Int) (vf : α → PyData) {n : Nat}
    (h : ∀ x ∈ xs, ∃ ρ, tg.put (e x) ρ0 = some ρ ∧ (∀ (n : Nat) (R : Bool → Nat → Prop), R true n → tt ⟨ρ, n⟩ R) ∧ (∀ (n : Nat) (R : PyData → Nat → Prop), R (.int (kf x)) n → tk ⟨ρ, n⟩ R) ∧ (∀ (n : Nat) (R : PyData → Nat → Prop), R (vf x) n → tv ⟨ρ, n⟩ R))
    (nd : (xs.map kf).Nodup) (hl : xs.length ≤ 100000) (q : Q (.dict ((noShow, .none) :: xs.map fun x => (.int (kf x), vf x))) n) : dDvL tg tt tk tv ρ0 Q (xs.map e) [] n := by
  have key : ∀ (post pre : List α), pre ++ post = xs → dDvL0 tg tt tk tv ρ0 Q (post.map e) (pre.map fun x => (PyData.int (kf x), vf x)) n := by
    intro post
    induction post with
    | nil =>
      intro pre hp
      rw [List.append_nil] at hp
      subst hp
      exact q
    | cons x post ih =>
      intro pre hp
      have hx : x ∈ xs := by rw [← hp]; exact List.mem_append_right _ List.mem_cons_self
      obtain ⟨ρ, h1, h2, h3, h4⟩ := h x hx
      refine opt_of h1 (h2 n _ ?_)
      rw [if_pos rfl]
      refine h3 n _ (h4 n _ ⟨⟨_, rfl⟩, fun p hp' z => ?_, ?_, ?_⟩)
      · obtain ⟨y, hy, rfl⟩ := List.mem_map.mp hp'
        have z : kf y = kf x := by
          have z : PyData.int (kf y) = .int (kf x) := z
          exact PyData.int.inj z
        rw [← hp, List.map_append, List.nodup_append] at nd
        exact nd.2.2 (kf y) (List.mem_map.mpr ⟨y, hy, rfl⟩) (kf x) (List.mem_map.mpr ⟨x, List.mem_cons_self, rfl⟩) z
      · rw [List.length_map]
        have : pre.length + (post.length + 1) = xs.length := by rw [← hp, List.length_append, List.length_cons]
        omega
      · have := ih (pre ++ [x]) (by rw [List.append_assoc]; exact hp)
        rw [List.map_append] at this
        exact this
  exact ⟨by simpa using key xs [] rfl⟩
end
end Dl
/-! sorted, of triples of ints -/
namespace Dl
open PySem PySem.Spec PyProof.Rows L2 Gd GenW Gf
abbrev Tri := Int × Int × Int
def e3 (t : Tri) : PyData := .tuple [.int t.1, .int t.2.1, .int t.2.2]
def v3 (t : Tri) : List V := [.int t.1, .int t.2.1, .int t.2.2]
def T3 (H : Hp) (t : V) (b : Tri) : Prop := ∃ p, t = .ref p ∧ H p = some (.tup (v3 b))
def le3 (a b : Tri) : Bool := decide (a.1 < b.1 ∨ (a.1 = b.1 ∧ (a.2.1 < b.2.1 ∨ (a.2.1 = b.2.1 ∧ a.2.2 ≤ b.2.2))))
def rSorted3 (K : PySem.W.Frag) : List V → Hp → VK → Prop := fun vs H Q => ∃ (a : Addr) (ts : List V) (bs : List Tri) (P : V → Prop), vs = [V.ref a] ∧ SqL K H a ts ∧ Paired (fun t b => T3 H t b ∧ P t) ts bs ∧
  ∀ (ts' : List V) (p : Addr), Paired (fun t b => T3 H t b ∧ P t) ts' (bs.mergeSort (PySem.W.dataLe false e3)) → H p = none → Q (.ref p) (upd H p (.lst ts'))
theorem ea_of {α β γ : Type} {R : α → γ → Prop} {S : α → β → Prop} : ∀ {xs : List α} {ys : List γ} {zs : List β}, Paired R xs ys → Paired S xs zs → PySem.W.EachIs (fun y z => ∃ x, R x y ∧ S x z) ys zs
  | _, _, _, .nil, .nil => .nil
  | _, _, _, .cons a t, .cons b u => .cons ⟨_, a, b⟩ (ea_of t u)
theorem of_ea {α β γ : Type} {R : α → γ → Prop} {S : α → β → Prop} : ∀ {ys : List γ} {zs : List β}, PySem.W.EachIs (fun y z => ∃ x, R x y ∧ S x z) ys zs → ∃ xs, Paired R xs ys ∧ Paired S xs zs
  | _, _, .nil => ⟨[], .nil, .nil⟩
  | _, _, .cons ⟨x, a, b⟩ t => let ⟨xs, h1, h2⟩ := of_ea t; ⟨x :: xs, .cons a h1, .cons b h2⟩
theorem units3 {k : Nat} {A : Around} (hr : Room k A) : A.units + 3 < cLine := by have := hr.un; omega
section
variable {X : Cx}
theorem reads3 {pins : List (Addr × Obj)} {σ : L2.St} {H : Hp} {s : Shared} (I : Inv X pins σ H s) {v : Value} {b : Tri} (h : ∃ t, RelV t v ∧ T3 H t b) : ∃ as, Reads s.heap v (e3 b) as := by
  obtain ⟨t, r, p, rfl, e⟩ := h
  obtain rfl : v = Value.ref p := r
  obtain ⟨_, its, rv, q⟩ := I.hok p _ e
  have q : IsTup s.heap p its.toArray := q
  cases rv with
  | cons a1 r1 => cases r1 with
    | cons a2 r2 => cases r2 with
      | cons a3 r3 =>
        cases r3
        obtain ⟨t1, rfl⟩ := a1
        obtain ⟨t2, rfl⟩ := a2
        obtain ⟨t3, rfl⟩ := a3
        obtain ⟨o, n, h1, h2, h3⟩ : ∃ o n, s.heap.get? p = some o ∧ o.cls = .type "tuple" ∧ o.data = .seq [Value.int b.1 t1, Value.int b.2.1 t2, Value.int b.2.2 t3].toArray n := by
          obtain ⟨o, h1, h2, n, h3⟩ := q
          exact ⟨o, n, h1, h2, h3⟩
        exact ⟨_, .tuple h1 h2 h3 (.cons (.int _ _) (.cons (.int _ _) (.cons (.int _ _) .nil)))⟩
theorem alike3 (a b : Tri) : PySem.W.alike (e3 a) (e3 b) = true := by
  unfold e3
  simp [PySem.W.alike, PySem.W.alikeAll]
theorem depth3 (a : Tri) : (e3 a).depth ≤ 1 := by
  unfold e3
  simp [PyData.depth, PyData.depthAll]
theorem cr_sorted3 (hu : X.A.units + 3 < cLine) : CallR X (.builtin "sorted") (rSorted3 X.K) := by
  intro pins s σ H vs us Q I r h
  obtain ⟨a, ts, bs, P, rfl, hs, e, q⟩ := h
  obtain ⟨its, rv, hl, hz⟩ := I.list hs
  rw [Vals.ref1 r]
  have key : PySem.W.EachIs (fun v b => ∃ t, RelV t v ∧ (T3 H t b ∧ P t)) its bs := ea_of rv e
  have lb : bs.length = ts.length := e.length.symm
  refine PySem.W.sorted_data (R := fun v b => ∃ t, RelV t v ∧ (T3 H t b ∧ P t)) (enc := e3) hl.isList key (key.mono fun _ _ ⟨t, z1, z2, _⟩ => reads3 I ⟨t, z1, z2⟩) (PySem.W.AllAlike.of alike3) (PySem.W.Sortable.tuples fun b => ⟨_, _, rfl⟩) (by rw [lb]; exact hz) (fun b _ => by have := depth3 b; omega) fun out ho eo => ?_
  obtain ⟨ts', r', e'⟩ := of_ea eo
  obtain ⟨ep, he'⟩ := PyProof.Rows.sortedAll_at s.heap its out.toArray
  have hlen : ts'.length ≤ sizeLine := by
    rw [r'.length, ho, lb]
    exact hz
  exact ⟨.ref _, upd H (s.heap.objs.size + 1) (.lst ts'), I.laid (t' := s.toks) (fun _ _ => PyProof.Rows.sortedAll_old) (Nat.le_succ _) ⟨hlen, out, ep, r', he'⟩, rfl, q _ _ e' (I.hok.fresh (Nat.le_succ _))⟩
variable {G : Gx}
theorem lt3 (a b : Tri) : PySem.W.dataLt (e3 a) (e3 b) = decide (a.1 < b.1 ∨ (a.1 = b.1 ∧ (a.2.1 < b.2.1 ∨ (a.2.1 = b.2.1 ∧ a.2.2 < b.2.2)))) := by
  unfold e3
  rw [PySem.W.dataLt_tuple, PySem.W.dataLt_cons (by simp [PySem.W.alike]), PySem.W.dataLt_cons (by simp [PySem.W.alike]), PySem.W.dataLt_cons (by simp [PySem.W.alike])]
  have q : ∀ x y : Int, (PyData.eqv (.int x) (.int y) = true) = (x = y) := fun x y => by simp [PyData.eqv]
  rw [PyProof.Rows.lex_irrefl, PySem.W.dataLt_int, PySem.W.dataLt_int, PySem.W.dataLt_int]
  simp only [q]
  by_cases h1 : a.1 = b.1
  · rw [if_pos h1]
    by_cases h2 : a.2.1 = b.2.1
    · rw [if_pos h2]
      by_cases h3 : a.2.2 = b.2.2
      · rw [if_pos h3, decide_eq_false (by omega)]
      · rw [if_neg h3]
        exact decide_eq_decide.mpr (by omega)
    · rw [if_neg h2]
      exact decide_eq_decide.mpr (by omega)
  · rw [if_neg h1]
    exact decide_eq_decide.mpr (by omega)
theorem dataLe_3 : PySem.W.dataLe false e3 = le3 := by
  funext a b
  show (!PySem.W.dataLt (e3 b) (e3 a)) = _
  rw [lt3]
  unfold le3
  by_cases h : b.1 < a.1 ∨ (b.1 = a.1 ∧ (b.2.1 < a.2.1 ∨ (b.2.1 = a.2.1 ∧ b.2.2 < a.2.2)))
  · rw [decide_eq_true h, decide_eq_false (by omega)]
    rfl
  · rw [decide_eq_false h, decide_eq_true (by omega)]
    rfl
theorem tri_of {O : Addr → Prop} {H : Hp} {v : V} {b : Tri} (h : Dv O H v (e3 b)) : T3 H v b ∧ ∀ p, v = .ref p → ¬ O p := by
  obtain ⟨a, xs, rfl, e, n, d⟩ := Dv.unT (show Dv O H v (.tuple [.int b.1, .int b.2.1, .int b.2.2]) from h)
  have : xs = v3 b := by
    cases d with
    | cons a1 r1 => cases r1 with
      | cons a2 r2 => cases r2 with
        | cons a3 r3 =>
          cases r3
          cases a1
          cases a2
          cases a3
          rfl
  subst this
  exact ⟨⟨a, rfl, e⟩, fun p z => by cases z; exact n⟩
/-- sorted(xs), triples of ints -/
def dSorted3 (t : TD) : TD := fun E Q => t E fun d n => ∃ bs : List Tri, d = .list (bs.map e3) ∧ bs.length ≤ 100000 ∧ Q (.list ((bs.mergeSort le3).map e3)) n
theorem pl_sorted3 {e : Expr} {t : TD} {p pos : Pos} (hu : X.A.units + 3 < cLine) (he : PB X G e t) (hm : X.mg "sorted" = none) (hg : Gl X "sorted" := by rfl)
    (hs : starEach [e] X.env = (false, eval e X.env) :: starEach [] X.env := by rfl) : PL X G (.Call (.Name "sorted" p) [e] [] pos) (dSorted3 t) :=
  PE.wk (pe_callB (cr_sorted3 hu) hg hm (by decide +kernel) (pa_cons he pa_nil hs) (he := hs)) fun σ H Q ⟨O, E, Qd, r, im, z⟩ => by
    refine ⟨O, E, _, r, ?_, z⟩
    rintro d n v H1 k1 i1 rv ⟨bs, rfl, hl, q⟩
    have r1 := r.step k1 i1
    have rv' : ∃ a vs, v = .ref a ∧ H1 a = some (.lst vs) ∧ DvL O H1 vs (bs.map e3) := by
      rcases rv with rv | ⟨a, vs, ds, rfl, e, h1, d1, _⟩
      · obtain ⟨a, vs, rfl, h1, _, d1⟩ := Dv.unL rv
        exact ⟨a, vs, rfl, h1, d1⟩
      · cases e
        exact ⟨a, vs, rfl, h1, d1⟩
    obtain ⟨a, vs, rfl, h1, d1⟩ := rv'
    have key : ∀ {vs : List V} {bs : List Tri}, DvL O H1 vs (bs.map e3) → Paired (fun t b => T3 H1 t b ∧ ∀ p, t = .ref p → ¬ O p) vs bs := by
      intro vs bs
      induction bs generalizing vs with
      | nil => intro h; cases h; exact .nil
      | cons b bs ih =>
        intro h
        cases h with
        | cons a t => exact .cons (tri_of a) (ih t)
    have kk := key d1
    refine ⟨a, vs, bs, fun t => ∀ p, t = .ref p → ¬ O p, rfl, sq_of h1, kk, fun ts' p pr hp => ?_⟩
    rw [dataLe_3] at pr
    have s1 := same_upd' (o := .lst ts') hp
    obtain ⟨k3, i3⟩ := r1.fin s1
    have dv : DvL (fun x => O x ∨ x = p) (upd H1 p (.lst ts')) ts' ((bs.mergeSort le3).map e3) := by
      generalize bs.mergeSort le3 = cs at pr
      have : ∀ {us : List V} {cs : List Tri}, Paired (fun t b => T3 H1 t b ∧ ∀ p, t = .ref p → ¬ O p) us cs → DvL (fun x => O x ∨ x = p) (upd H1 p (.lst ts')) us (cs.map e3) := by
        intro us cs h
        induction h with
        | nil => exact .nil
        | cons a _ ih =>
          obtain ⟨⟨b, rfl, e⟩, n⟩ := a
          refine .cons (Dv.mkT (s1 _ _ e) (fun z => z.elim (n b rfl) fun z => ?_) (.cons (.int _) (.cons (.int _) (.cons (.int _) .nil)))) ih
          rw [z, hp] at e
          cases e
      exact this pr
    refine im _ n _ _ (k1.trans k3) i3 ⟨p, _, _, rfl, rfl, ?_, upd_same, dv⟩ q
    cases e0 : H p with
    | none => rfl
    | some u =>
      by_cases qs : G.F.S p
      · exact (G.F.al n H1 p i1 qs hp).elim
      · exact (Stay.ne (k1 p u e0 qs) hp).elim
end
end Dl
/-! sorted, of tuples of ints of any length -/
namespace Dl
open PySem PySem.Spec PyProof.Rows L2 Gd GenW Gf
def TR (H : Hp) (t : V) (b : List Int) : Prop := ∃ p, t = .ref p ∧ H p = some (.tup (b.map V.int))
def leR (a b : List Int) : Bool := decide (a ≤ b)
def rSortedR (K : PySem.W.Frag) : List V → Hp → VK → Prop := fun vs H Q => ∃ (a : Addr) (ts : List V) (bs : List (List Int)) (P : V → Prop), vs = [V.ref a] ∧ SqL K H a ts ∧ Paired (fun t b => TR H t b ∧ P t) ts bs ∧ (∀ b ∈ bs, b ≠ []) ∧
  ∀ (ts' : List V) (p : Addr), Paired (fun t b => TR H t b ∧ P t) ts' (bs.mergeSort (PySem.W.dataLe false tupI)) → H p = none → Q (.ref p) (upd H p (.lst ts'))
theorem reads_ints {h : Heap} : ∀ {b : List Int} {its : List Value}, Vals (b.map V.int) its → ReadsAll h its (b.map dI) []
  | [], _, .nil => .nil
  | x :: b, _, .cons a r => by
    obtain ⟨t, rfl⟩ := a
    exact ReadsAll.cons (as := []) (bs := []) (.int _ _) (reads_ints r)
section
variable {X : Cx}
theorem readsR {pins : List (Addr × Obj)} {σ : L2.St} {H : Hp} {s : Shared} (I : Inv X pins σ H s) {v : Value} {b : List Int} (h : ∃ t, RelV t v ∧ TR H t b) : ∃ as, Reads s.heap v (tupI b) as := by
  obtain ⟨t, r, p, rfl, e⟩ := h
  obtain rfl : v = Value.ref p := r
  obtain ⟨_, its, rv, q⟩ := I.hok p _ e
  have q : IsTup s.heap p its.toArray := q
  obtain ⟨o, h1, h2, n, h3⟩ := q
  exact ⟨_, .tuple h1 h2 h3 (reads_ints rv)⟩
theorem alikeR (a b : List Int) : PySem.W.alike (tupI a) (tupI b) = true := by
  rw [PySem.W.alike]
  induction a generalizing b with
  | nil => rw [List.map_nil, PySem.W.alikeAll]
  | cons x a ih =>
    cases b with
    | nil => rw [List.map_nil, List.map_cons, PySem.W.alikeAll]
    | cons y b => rw [List.map_cons, List.map_cons, PySem.W.alikeAll, ih]; rfl
theorem depthR (a : List Int) : (tupI a).depth ≤ 1 := by
  rw [PyData.depth]
  have : PyData.depthAll (a.map dI) = 0 := by
    induction a with
    | nil => rw [List.map_nil, PyData.depthAll]
    | cons x a ih =>
      rw [List.map_cons, PyData.depthAll, ih, PyData.depth]
      rfl
  omega
theorem ltR (a b : List Int) : PySem.W.dataLt (tupI a) (tupI b) = decide (a < b) := by
  rw [PySem.W.dataLt_tuple]
  exact PySem.W.dataLt_ints a b
theorem dataLe_R : PySem.W.dataLe false tupI = leR := by
  funext a b
  show (!PySem.W.dataLt (tupI b) (tupI a)) = _
  rw [ltR]
  unfold leR
  rw [← decide_not]
  exact decide_eq_decide.mpr Iff.rfl
theorem cr_sortedR (hu : X.A.units + 3 < cLine) : CallR X (.builtin "sorted") (rSortedR X.K) := by
  intro pins s σ H vs us Q I r h
  obtain ⟨a, ts, bs, P, rfl, hs, e, ne, q⟩ := h
  obtain ⟨its, rv, hl, hz⟩ := I.list hs
  rw [Vals.ref1 r]
  have key : PySem.W.EachIs (fun v b => ∃ t, RelV t v ∧ (TR H t b ∧ P t)) its bs := ea_of rv e
  have lb : bs.length = ts.length := e.length.symm
  refine PySem.W.sorted_data (R := fun v b => ∃ t, RelV t v ∧ (TR H t b ∧ P t)) (enc := tupI) hl.isList key (key.mono fun _ _ ⟨t, z1, z2, _⟩ => readsR I ⟨t, z1, z2⟩) (PySem.W.AllAlike.of alikeR) (.inl fun d hd => by
    obtain ⟨b, hb, rfl⟩ := List.mem_map.mp hd
    cases b with
    | nil => exact (ne _ hb rfl).elim
    | cons x b => exact ⟨_, _, rfl⟩) (by rw [lb]; exact hz) (fun b _ => by have := depthR b; omega) fun out ho eo => ?_
  obtain ⟨ts', r', e'⟩ := of_ea eo
  obtain ⟨ep, he'⟩ := PyProof.Rows.sortedAll_at s.heap its out.toArray
  have hlen : ts'.length ≤ sizeLine := by
    rw [r'.length, ho, lb]
    exact hz
  exact ⟨.ref _, upd H (s.heap.objs.size + 1) (.lst ts'), I.laid (t' := s.toks) (fun _ _ => PyProof.Rows.sortedAll_old) (Nat.le_succ _) ⟨hlen, out, ep, r', he'⟩, rfl, q _ _ e' (I.hok.fresh (Nat.le_succ _))⟩
variable {G : Gx}
theorem row_of {O : Addr → Prop} {H : Hp} {v : V} {b : List Int} (h : Dv O H v (tupI b)) : TR H v b ∧ ∀ p, v = .ref p → ¬ O p := by
  obtain ⟨a, xs, rfl, e, n, d⟩ := Dv.unT (show Dv O H v (.tuple (b.map dI)) from h)
  have : xs = b.map V.int := by
    have key : ∀ {b : List Int} {xs : List V}, DvL O H xs (b.map dI) → xs = b.map V.int := by
      intro b
      induction b with
      | nil => intro xs d; cases d; rfl
      | cons x b ih =>
        intro xs d
        cases d with
        | cons a1 r1 =>
          cases a1
          rw [List.map_cons, ih r1]
    exact key d
  subst this
  exact ⟨⟨a, rfl, e⟩, fun p z => by cases z; exact n⟩
theorem row_mk {O : Addr → Prop} {H : Hp} {p : Addr} {b : List Int} (e : H p = some (.tup (b.map V.int))) (n : ¬ O p) : Dv O H (.ref p) (tupI b) := by
  refine Dv.mkT e n ?_
  have key : ∀ b : List Int, DvL O H (b.map V.int) (b.map dI) := by
    intro b
    induction b with
    | nil => exact .nil
    | cons x b ih => exact .cons (.int _) ih
  exact key b
/-- sorted(xs), tuples of ints -/
def dSortedR (t : TD) : TD := fun E Q => t E fun d n => ∃ bs : List (List Int), d = .list (bs.map tupI) ∧ bs.length ≤ 100000 ∧ (∀ b ∈ bs, b ≠ []) ∧ Q (.list ((bs.mergeSort leR).map tupI)) n
theorem pl_sortedR {e : Expr} {t : TD} {p pos : Pos} (hu : X.A.units + 3 < cLine) (he : PB X G e t) (hm : X.mg "sorted" = none) (hg : Gl X "sorted" := by rfl)
    (hs : starEach [e] X.env = (false, eval e X.env) :: starEach [] X.env := by rfl) : PL X G (.Call (.Name "sorted" p) [e] [] pos) (dSortedR t) :=
  PE.wk (pe_callB (cr_sortedR hu) hg hm (by decide +kernel) (pa_cons he pa_nil hs) (he := hs)) fun σ H Q ⟨O, E, Qd, r, im, z⟩ => by
    refine ⟨O, E, _, r, ?_, z⟩
    rintro d n v H1 k1 i1 rv ⟨bs, rfl, hl, ne, q⟩
    have r1 := r.step k1 i1
    have rv' : ∃ a vs, v = .ref a ∧ H1 a = some (.lst vs) ∧ DvL O H1 vs (bs.map tupI) := by
      rcases rv with rv | ⟨a, vs, ds, rfl, e, h1, d1, _⟩
      · obtain ⟨a, vs, rfl, h1, _, d1⟩ := Dv.unL rv
        exact ⟨a, vs, rfl, h1, d1⟩
      · cases e
        exact ⟨a, vs, rfl, h1, d1⟩
    obtain ⟨a, vs, rfl, h1, d1⟩ := rv'
    have key : ∀ {vs : List V} {bs : List (List Int)}, DvL O H1 vs (bs.map tupI) → Paired (fun t b => TR H1 t b ∧ ∀ p, t = .ref p → ¬ O p) vs bs := by
      intro vs bs
      induction bs generalizing vs with
      | nil => intro h; cases h; exact .nil
      | cons b bs ih =>
        intro h
        cases h with
        | cons a t => exact .cons (row_of a) (ih t)
    have kk := key d1
    refine ⟨a, vs, bs, fun t => ∀ p, t = .ref p → ¬ O p, rfl, sq_of h1, kk, ne, fun ts' p pr hp => ?_⟩
    rw [dataLe_R] at pr
    have s1 := same_upd' (o := .lst ts') hp
    obtain ⟨k3, i3⟩ := r1.fin s1
    have dv : DvL (fun x => O x ∨ x = p) (upd H1 p (.lst ts')) ts' ((bs.mergeSort leR).map tupI) := by
      generalize bs.mergeSort leR = cs at pr
      have : ∀ {us : List V} {cs : List (List Int)}, Paired (fun t b => TR H1 t b ∧ ∀ p, t = .ref p → ¬ O p) us cs → DvL (fun x => O x ∨ x = p) (upd H1 p (.lst ts')) us (cs.map tupI) := by
        intro us cs h
        induction h with
        | nil => exact .nil
        | cons a _ ih =>
          obtain ⟨⟨b, rfl, e⟩, n⟩ := a
          refine .cons (row_mk (s1 _ _ e) (fun z => z.elim (n b rfl) fun z => ?_)) ih
          rw [z, hp] at e
          cases e
      exact this pr
    refine im _ n _ _ (k1.trans k3) i3 ⟨p, _, _, rfl, rfl, ?_, upd_same, dv⟩ q
    cases e0 : H p with
    | none => rfl
    | some u =>
      by_cases qs : G.F.S p
      · exact (G.F.al n H1 p i1 qs hp).elim
      · exact (Stay.ne (k1 p u e0 qs) hp).elim
end
theorem sortR_perm {a b : List (List Int)} (h : a.Perm b) : a.mergeSort leR = b.mergeSort leR := by
  have le_tr : ∀ x y z : List Int, leR x y = true → leR y z = true → leR x z = true := fun x y z h1 h2 => decide_eq_true (List.le_trans (of_decide_eq_true h1) (of_decide_eq_true h2))
  have le_to : ∀ x y : List Int, (leR x y || leR y x) = true := fun x y => by
    unfold leR
    rw [← Bool.decide_or]
    exact decide_eq_true (List.le_total x y)
  refine List.Perm.eq_of_pairwise (le := fun a b => leR a b = true) (fun a b _ _ h1 h2 => List.le_antisymm (of_decide_eq_true h1) (of_decide_eq_true h2)) (List.pairwise_mergeSort le_tr le_to _) (List.pairwise_mergeSort le_tr le_to _) ?_
  exact (List.mergeSort_perm _ _).trans (h.trans (List.mergeSort_perm _ _).symm)
theorem sortR_of {a b : List (List Int)} (h : a.Perm b) (hb : b.Pairwise (· < ·)) : a.mergeSort leR = b := by
  have le_tr : ∀ x y z : List Int, leR x y = true → leR y z = true → leR x z = true := fun x y z h1 h2 => decide_eq_true (List.le_trans (of_decide_eq_true h1) (of_decide_eq_true h2))
  have le_to : ∀ x y : List Int, (leR x y || leR y x) = true := fun x y => by
    unfold leR
    rw [← Bool.decide_or]
    exact decide_eq_true (List.le_total x y)
  refine List.Perm.eq_of_pairwise (le := fun a b => leR a b = true) (fun a b _ _ h1 h2 => List.le_antisymm (of_decide_eq_true h1) (of_decide_eq_true h2)) (List.pairwise_mergeSort le_tr le_to _) (hb.imp fun h => decide_eq_true (List.le_of_lt h)) ((List.mergeSort_perm _ _).trans h)
end Dl
/-! tuples of ints, compared by < -/
namespace Dl
open PySem PySem.Spec PyProof.Rows L2 Gd
theorem intsOf_el : ∀ {ds : List PyData} {xs : List Int}, intsOf ds = some xs → ds = xs.map dI
  | [], xs, h => by cases h; rfl
  | d :: ds, xs, h => by
    cases d with
    | int i =>
      rw [intsOf, Option.map_eq_some_iff] at h
      obtain ⟨ys, e, rfl⟩ := h
      rw [intsOf_el e]
      rfl
    | _ => cases h
def rLtT (K : PySem.W.Frag) : R2 := fun x y H Q => ∃ xs ys : List Int, Dp K H x (tupI xs) ∧ Dp K H y (tupI ys) ∧ Q (.bl (decide (xs < ys))) H
theorem alike_ints : ∀ xs ys : List Int, PySem.W.alikeAll (xs.map dI) (ys.map dI) = true
  | [], _ => by rw [List.map_nil, PySem.W.alikeAll]
  | x :: xs, [] => by rw [List.map_nil, List.map_cons, PySem.W.alikeAll]
  | x :: xs, y :: ys => by
    rw [List.map_cons, List.map_cons, PySem.W.alikeAll, alike_ints xs ys]
    rfl
theorem op_ltT {X : Cx} (hu : X.A.units + 64 < cLine) : OpR X (compareOp .Lt) (rLtT X.K) := by
  rintro pins s σ H x y u v Q I rx ry ⟨xs, ys, hx, hy, q⟩
  obtain ⟨as, r1⟩ := Dp.reads I (tupI xs) x u hx rx
  obtain ⟨bs, r2⟩ := Dp.reads I (tupI ys) y v hy ry
  have hd : min (tupI xs).depth (tupI ys).depth ≤ 1 := Nat.le_trans (Nat.min_le_left _ _) (pln_tupI (ns := xs)).dp
  refine PySem.W.lt_data r1 r2 (by unfold tupI; rw [PySem.W.alike]; exact alike_ints xs ys) (by unfold tupI; exact fun z => by cases z) (by omega) ?_
  rw [ltR]
  exact ⟨.bl _, H, I, rfl, q⟩
@[irreducible] def gLtT : PyData → PyData → Option PyData
  | .tuple ds, .tuple es => (intsOf ds).bind fun xs => (intsOf es).bind fun ys => some (.bool (decide (xs < ys)))
  | _, _ => none
theorem ltT_of (xs ys : List Int) : gLtT (tupI xs) (tupI ys) = some (.bool (decide (xs < ys))) := by
  unfold gLtT tupI
  show (intsOf (xs.map dI)).bind (fun xs => (intsOf (ys.map dI)).bind fun ys => some (PyData.bool (decide (xs < ys)))) = _
  rw [intsOf_map, intsOf_map]
  rfl
theorem l_ltT {K : PySem.W.Frag} : Op2 (rLtT K) gLtT := by
  intro O H x y dx dy z Q al bx by' e q
  unfold gLtT at e
  split at e
  · rename_i ds es
    rw [Option.bind_eq_some_iff] at e
    obtain ⟨xs, e1, e⟩ := e
    rw [Option.bind_eq_some_iff] at e
    obtain ⟨ys, e2, e⟩ := e
    cases e
    obtain rfl := intsOf_el e1
    obtain rfl := intsOf_el e2
    exact ⟨xs, ys, bx.dp ((pln_tupI (ns := xs)).sh (by decide)), by'.dp ((pln_tupI (ns := ys)).sh (by decide)), nw_now q (.bl _)⟩
  · cases e
end Dl
/-! set(xs), xs a list of ints, with the order kept track of (as SetR has it) -/
namespace Dl
open PySem PySem.Spec PyProof.Rows L2 Gd
/-- the set as it is born -/
abbrev born (w : World) : Obj := { cls := .type "set", dict := none, data := .set #[] 0 (.fresh 0 0 (!w.params.followText "set-order")) }
section
variable {P : Program} {w : World} {A : Around} {E : Value → Shared → Prop} {s : Shared}
set_option maxRecDepth 100000 in
set_option maxHeartbeats 3200000 in
theorem set_of_ints {l : Addr} {its : Array Value} (ns : List Int) {Q : Value → Shared → Prop} (calm : A.handled = none) (isl : s.heap.IsList l its) (inv : IntsAre its.toList ns) (few : ns.length + 1 < scanBound)
    (fin : ∀ (hp : Heap) (tk c : Nat), SetR w hp s.heap.objs.size (fun j => decide (j ∈ ns)) c → c ≤ ns.length → (∀ b o, s.heap.get? b = some o → hp.get? b = some o) → Q (.ref s.heap.objs.size) { s with heap := hp, toks := tk }) :
    wpAny (model P w) A (call (.type "set") [.ref l]) Q E s := by
  have size : its.size = ns.length := by
    rw [← Array.length_toList]
    exact IntsAre.length inv
  have born0 : (s.heap.push (born w)).get? s.heap.objs.size = some (born w) := Heap.get?_push_size _ rfl
  obtain ⟨m1, m2, mro⟩ := F.called_set.mro
  have md := F.called_set.made
  have sb := F.called_set.sub
  have nt := F.called_set.notType
  have cc := F.called_set.canCreate
  have tc := F.typeCall_set_1 (.ref l)
  refine wpAny_call (codeAny_of_tree (show wpAny _ _ (callAny (.type "set") _) _ _ _ from wpAny_pure ⟨Code.quiet_builtin _ (by decide +kernel), codeAny_builtin F.entry_type_call ?_⟩))
  rw [Around.under_plain (weight_type_call_type "set" ([.ref l] : List Value) []) rfl]
  repeat (any_goals first | assumption | wp_step)
  refine codeAny_mono (code_set_led1 (.ref l) (E := E) (Q₁ := fun ob t => ob = .ref s.heap.objs.size ∧ t = { s with heap := s.heap.push (born w) }) ⟨rfl, rfl⟩) fun r t hr => ?_
  rcases r with e | fl
  · exact hr
  cases fl with
  | ret ob =>
    obtain ⟨rfl, rfl⟩ := hr
    have isT : Shared.TypeIs { s with heap := s.heap.push (born w) } (.ref s.heap.objs.size) "set" := ⟨_, born0, rfl⟩
    have il := F.called_set.init.lookup
    have ib := F.called_set.init.bind (.ref s.heap.objs.size)
    repeat (any_goals first | assumption | wp_step)
    refine codeAny_mono (codeAny_call_builtin (R := wants (fun r t => r = .none ∧ ∃ hp tk c, t = { s with heap := hp, toks := tk } ∧ SetR w hp s.heap.objs.size (fun j => decide (j ∈ ns)) c ∧ c ≤ ns.length ∧ ∀ b o, s.heap.get? b = some o → hp.get? b = some o) E) F.called_set.init.plain F.entry_set_init (check_set_init_1 isT ?_)) fun r t hr => ?_
    · obtain ⟨⟨oc, od, ob, os⟩, at', rfl, nl, rfl⟩ := isl
      have later := Heap.get?_push_of_some (born w) at'
      have isl1 : (s.heap.push (born w)).IsList l its := ⟨_, later, rfl, nl, rfl⟩
      have lt := Heap.lt_size at'
      have x1 := F.sub_list_set
      have x2 := F.sub_list_frozenset
      have x3 : (Value.type "list" == Value.type "dict") = false := by decide
      unfold Builtin.«set.__init__»; unfold noKeywords Builtin.Frozenset.updateFrom
      generalize eI : pyIter = PI
      wp_walk
      subst eI
      refine wpAny_pyIter_list isl1 (wpAny_bind (wpAny_runValue ?_))
      have calm3 : A.in1.in1.in1.handled = none := by simp [calm]
      have away : l ≠ (s.heap.push (born w)).objs.size := by rw [Heap.size_push]; exact Nat.ne_of_lt (Nat.lt_succ_of_lt lt)
      have apart : s.heap.objs.size ∉ [(s.heap.push (born w)).objs.size, l] := by
        rw [Heap.size_push]
        simp only [List.mem_cons, List.not_mem_nil, or_false, not_or]
        exact ⟨Nat.ne_of_lt (Nat.lt_succ_self _), Nat.ne_of_gt lt⟩
      have val : ∀ (i : Nat) (v : Value), its[i]? = some v → ∃ k t, ns[i]? = some k ∧ v = .int k t := fun i v hv => by
        have hi : i < ns.length := size ▸ (Array.getElem?_eq_some_iff.mp hv).1
        obtain ⟨t, e⟩ := IntsAre.int_at inv i v (by rw [Array.getElem?_toList]; exact hv)
        exact ⟨ns[i], t, List.getElem?_eq_getElem hi, by rw [e, List.getD_eq_getElem?_getD, List.getElem?_eq_getElem hi]; rfl⟩
      refine set_update_ints ((Walks.list calm3 _ l away its).toS) s.heap.objs.size apart ns size few val (its.size - 0) 0 _ (by omega) (Nat.zero_le _) ⟨⟨_, Heap.get?_push_size _ rfl, rfl, rfl⟩, isl1.push _⟩ ⟨0, Nat.le_refl 0, setR_new_at (Heap.get?_push_of_some _ born0)⟩ fun t c mv hc rr => ?_
      obtain ⟨hp, g, d, tk, os⟩ := t
      have e1 : g = s.gens := mv.gens
      have e2 : d = s.drawn := mv.drawn
      have e3 : os = s.os := mv.os
      subst e1 e2 e3
      show wpAny _ _ _ _ _ _; refine wpAny_pure ?_; show wpAny _ _ (ret Value.none) _ _ _; refine wpAny_pure ⟨rfl, hp, tk, c, rfl, rr, size ▸ hc, fun b o e => ?_⟩
      have b0 := Heap.lt_size e
      refine mv.heap b o ?_ (Heap.get?_push_of_some _ (Heap.get?_push_of_some _ e))
      simp only [List.mem_cons, List.not_mem_nil, or_false, not_or, Heap.size_push]
      exact ⟨Nat.ne_of_lt b0, Nat.ne_of_lt (Nat.lt_succ_of_lt b0)⟩
    · rcases r with e | fl
      · exact hr
      cases fl with
      | ret r =>
        obtain ⟨rfl, hp, tk, c, rfl, rr, hc, keep⟩ := hr
        repeat (any_goals first | assumption | wp_step)
        exact fin _ _ _ rr hc keep
      | _ => exact hr.elim
  | _ => exact hr.elim
end
section
variable {X : Cx} {G : Gx}
def rSetLst (K : PySem.W.Frag) (w : World) : List V → Hp → VK → Prop := fun xs H Q => ∃ (a : Addr) (ns : List Int), xs = [.ref a] ∧ SqL K H a (ns.map V.int) ∧ ns.length < 60 ∧ ∀ p c, c ≤ ns.length → H p = none → Q (.ref p) (upd H p (SetO w p (fun j => decide (j ∈ ns)) c))
theorem cr_setLst (hc : X.calm = true) : CallR X (.type "set") (rSetLst X.K X.w) := by
  intro pins s σ H xs us Q I r h
  obtain ⟨a, ns, rfl, hs, hb, q⟩ := h
  rw [Vals.ref1 r]
  obtain ⟨its, rv, p, hz⟩ := I.list hs
  refine set_of_ints ns (I.ok.hd hc) p.isList (by simpa using intsAre_of rv) (Nat.lt_of_lt_of_le (by omega : ns.length + 1 < 64) (by decide)) fun h' tk c R hc' keep => ?_
  exact ⟨.ref _, upd H s.heap.objs.size (SetO X.w s.heap.objs.size (fun j => decide (j ∈ ns)) c), I.laid (t' := tk) keep (Nat.le_refl _) (setO_new R), rfl, q _ c hc' (I.hok.fresh (Nat.le_refl _))⟩
/-- sorted(set(xs)), xs a list of whole numbers: the same numbers, ascending -/
def dSL (t : TD) : TD := fun E Q => t E fun d n => match d with
  | .list ds => opt (intsOf ds) fun ns => ns.length < 60 ∧ ∀ ms : List Int, ms.Pairwise (· < ·) → (∀ k, k ∈ ms ↔ k ∈ ns) → ms.length ≤ ns.length → Q (lstI ms) n
  | _ => False
theorem pl_sortedSetL {e : Expr} {t : TD} {p p2 pos pos2 : Pos} (hc : X.calm = true) (he : PB X G e t) (hm : X.mg "sorted" = none) (hm2 : X.mg "set" = none) (hg : Gl X "sorted" := by rfl) (hg2 : Gl X "set" := by rfl)
    (hs : starEach [e] X.env = (false, eval e X.env) :: starEach [] X.env := by rfl) (hs2 : starEach [.Call (.Name "set" p2) [e] [] pos2] X.env = (false, eval (.Call (.Name "set" p2) [e] [] pos2) X.env) :: starEach [] X.env := by rfl) :
    PL X G (.Call (.Name "sorted" p) [.Call (.Name "set" p2) [e] [] pos2] [] pos) (dSL t) :=
  PE.wk (pe_callB (cr_sortedSet hc) hg hm (by decide +kernel) (pa_cons (pe_callTy (cr_setLst hc) hg2 hm2 (by decide +kernel) (pa_cons he pa_nil hs) (he := hs)) pa_nil hs2) (he := hs2)) fun σ H Q ⟨O, E, Qd, r, im, z⟩ => by
    refine ⟨O, E, _, r, ?_, z⟩
    rintro d n v H1 k1 i1 rv q1
    have r1 := r.step k1 i1
    split at q1
    · obtain ⟨ns, e1, hl, q⟩ := opt_el q1
      obtain ⟨a, vs, rfl, h1, d1⟩ := rv.bw.lst
      have := ints_dv d1 e1
      subst this
      refine ⟨a, ns, rfl, sq_of h1, hl, fun p c hcl hp => ?_⟩
      refine ⟨p, _, c, rfl, upd_same, by omega, fun ms p5 pw mem len hp5 => ?_⟩
      have s2 := same_upd' (o := SetO X.w p (fun j => decide (j ∈ ns)) c) hp
      have s3 := same_upd' (o := .lst (ms.map V.int)) hp5
      have dv : ∀ (l : List Int) (Hq : Hp), DvL (fun x => O x ∨ x = p5) Hq (l.map V.int) (l.map dI) := fun l Hq => by
        induction l with
        | nil => exact .nil
        | cons x l ih => exact .cons (.int x) ih
      obtain ⟨k3, i3⟩ := r1.fin (fun b o e => s3 b o (s2 b o e))
      refine im _ n _ _ (k1.trans k3) i3 ⟨p5, _, _, rfl, rfl, ?_, upd_same, dv ms _⟩ (q ms pw (fun k => by rw [mem k]; exact decide_eq_true_iff) (by omega))
      have h15 : H1 p5 = none := by
        by_cases c5 : p5 = p
        · rw [c5]; exact hp
        · rw [upd_ne c5] at hp5
          exact hp5
      cases e0 : H p5 with
      | none => rfl
      | some u =>
        by_cases qs : G.F.S p5
        · exact (G.F.al n H1 p5 i1 qs h15).elim
        · exact (Stay.ne (k1 p5 u e0 qs) h15).elim
    · exact q1.elim
end
end Dl
/-! sorted(set(xs)), xs a long list of small ints -/
namespace Dl
open PySem PySem.Spec PyProof.Rows L2 Gd
theorem int_few (B : Nat) : ∀ (l : List Int), l.Nodup → (∀ x ∈ l, 0 ≤ x ∧ x < B) → l.length ≤ B := by
  intro l nd h
  have h2 : (l.map Int.toNat).Nodup := by
    rw [List.Nodup, List.pairwise_map]
    exact List.Pairwise.imp_of_mem (fun {a b} ha hb n e => n (by have := h a ha; have := h b hb; omega)) nd
  have := nat_nodup_len (l.map Int.toNat) (List.range B) h2 fun x hx => by
    obtain ⟨y, hy, rfl⟩ := List.mem_map.mp hx
    have := h y hy
    exact List.mem_range.mpr (by omega)
  rw [List.length_map, List.length_range] at this
  exact this
section
variable {X : Cx} {G : Gx}
def rSetLst2 (K : PySem.W.Frag) (w : World) : List V → Hp → VK → Prop := fun xs H Q => ∃ (a : Addr) (ns : List Int), xs = [.ref a] ∧ SqL K H a (ns.map V.int) ∧ ns.length < 1000 ∧ (∀ x ∈ ns, 0 ≤ x ∧ x < (60 : Nat)) ∧ ∀ p c, c ≤ 60 → H p = none → Q (.ref p) (upd H p (SetO w p (fun j => decide (j ∈ ns)) c))
theorem cr_setLst2 (hc : X.calm = true) : CallR X (.type "set") (rSetLst2 X.K X.w) := by
  intro pins s σ H xs us Q I r h
  obtain ⟨a, ns, rfl, hs, hb, bd, q⟩ := h
  rw [Vals.ref1 r]
  obtain ⟨its, rv, p, hz⟩ := I.list hs
  refine set_of_ints ns (I.ok.hd hc) p.isList (by simpa using intsAre_of rv) (Nat.lt_of_lt_of_le (by omega : ns.length + 1 < 1002) (by decide)) fun h' tk c R hc' keep => ?_
  have c60 : c ≤ 60 := by
    obtain ⟨o, es, ep, t, _, _, _, _, nd, mem, _, _, sz, _⟩ := R
    have := int_few 60 _ nd fun x hx => bd x (of_decide_eq_true ((mem x).mpr hx))
    rw [List.length_map, Array.length_toList] at this
    omega
  exact ⟨.ref _, upd H s.heap.objs.size (SetO X.w s.heap.objs.size (fun j => decide (j ∈ ns)) c), I.laid (t' := tk) keep (Nat.le_refl _) (setO_new R), rfl, q _ c c60 (I.hok.fresh (Nat.le_refl _))⟩
/-- sorted(set(xs)): the same numbers, ascending -/
def dSL2 (t : TD) : TD := fun E Q => t E fun d n => ∃ ns : List Int, d = lstI ns ∧ ns.length < 1000 ∧ (∀ x ∈ ns, 0 ≤ x ∧ x < (60 : Nat)) ∧ ∀ ms : List Int, ms.Pairwise (· < ·) → (∀ k, k ∈ ms ↔ k ∈ ns) → Q (lstI ms) n
theorem pl_sortedSetL2 {e : Expr} {t : TD} {p p2 pos pos2 : Pos} (hc : X.calm = true) (he : PB X G e t) (hm : X.mg "sorted" = none) (hm2 : X.mg "set" = none) (hg : Gl X "sorted" := by rfl) (hg2 : Gl X "set" := by rfl)
    (hs : starEach [e] X.env = (false, eval e X.env) :: starEach [] X.env := by rfl) (hs2 : starEach [.Call (.Name "set" p2) [e] [] pos2] X.env = (false, eval (.Call (.Name "set" p2) [e] [] pos2) X.env) :: starEach [] X.env := by rfl) :
    PL X G (.Call (.Name "sorted" p) [.Call (.Name "set" p2) [e] [] pos2] [] pos) (dSL2 t) :=
  PE.wk (pe_callB (cr_sortedSet hc) hg hm (by decide +kernel) (pa_cons (pe_callTy (cr_setLst2 hc) hg2 hm2 (by decide +kernel) (pa_cons he pa_nil hs) (he := hs)) pa_nil hs2) (he := hs2)) fun σ H Q ⟨O, E, Qd, r, im, z⟩ => by
    refine ⟨O, E, _, r, ?_, z⟩
    rintro d n v H1 k1 i1 rv ⟨ns, rfl, hl, bd, q⟩
    have r1 := r.step k1 i1
    obtain ⟨a, vs, rfl, h1, d1⟩ := rv.bw.lst
    have := ints_dv d1 (intsOf_map ns)
    subst this
    refine ⟨a, ns, rfl, sq_of h1, hl, bd, fun p c hcl hp => ?_⟩
    refine ⟨p, _, c, rfl, upd_same, by omega, fun ms p5 pw mem len hp5 => ?_⟩
    have s2 := same_upd' (o := SetO X.w p (fun j => decide (j ∈ ns)) c) hp
    have s3 := same_upd' (o := .lst (ms.map V.int)) hp5
    have dv : ∀ (l : List Int) (Hq : Hp), DvL (fun x => O x ∨ x = p5) Hq (l.map V.int) (l.map dI) := fun l Hq => by
      induction l with
      | nil => exact .nil
      | cons x l ih => exact .cons (.int x) ih
    obtain ⟨k3, i3⟩ := r1.fin (fun b o e => s3 b o (s2 b o e))
    refine im _ n _ _ (k1.trans k3) i3 ⟨p5, _, _, rfl, rfl, ?_, upd_same, dv ms _⟩ (q ms pw fun k => by rw [mem k]; exact decide_eq_true_iff)
    have h15 : H1 p5 = none := by
      by_cases c5 : p5 = p
      · rw [c5]; exact hp
      · rw [upd_ne c5] at hp5
        exact hp5
    cases e0 : H p5 with
    | none => rfl
    | some u =>
      by_cases qs : G.F.S p5
      · exact (G.F.al n H1 p5 i1 qs h15).elim
      · exact (Stay.ne (k1 p5 u e0 qs) h15).elim
/-- a list, one of two -/
theorem pl_if {c a b : Expr} {tt : TDt} {ta tb : TD} {pos : Pos} (hc : PQ X G c tt) (ha : PL X G a ta) (hb : PL X G b tb) : PL X G (.IfExp c a b pos) (dIf tt ta tb) := px_if (fun {O H H1 H2 v d} u ⟨a, vs, ds, e1, e2, e3, e4, e5⟩ => ⟨a, vs, ds, e1, e2, by
  cases q : H a with
  | none => rfl
  | some o => exact (u a (by rw [q]; exact fun z => by cases z) e3).elim, e4, e5⟩) hc ha hb
end
end Dl
/-! sorted(set(xs)), xs a short list of tuples of ints -/
namespace Dl
open PySem PySem.Spec PyProof.Rows L2 Gd GenW Gf
theorem code_le_lt {B : Int} : ∀ (a b : List Int), a.length = b.length → TS.Bd B a → TS.Bd B b → TS.code B a ≤ TS.code B b → a ≠ b → a < b
  | [], [], _, _, _, _, n => (n rfl).elim
  | [], _ :: _, l, _, _, _, _ => by cases l
  | _ :: _, [], l, _, _, _, _ => by cases l
  | x :: r, y :: q, l, ha, hb, h, n => by
    have l' : r.length = q.length := by simpa using l
    rw [List.cons_lt_cons_iff]
    rcases Int.lt_trichotomy x y with c | c | c
    · exact .inl c
    · subst c
      refine .inr ⟨rfl, code_le_lt r q l' ha.tail hb.tail ?_ fun e => n (by rw [e])⟩
      refine Int.not_lt.mp fun z => ?_
      have := (TS.code_same (B := B) (d := x) l'.symm).mpr z
      omega
    · have := TS.code_lt (B := B) l'.symm hb.tail ha.tail c
      omega
section
variable {X : Cx} {G : Gx}
theorem rows_of {O : Addr → Prop} {H : Hp} : ∀ {vs : List V} {bs : List (List Int)}, DvL O H vs (bs.map tupI) → ∃ ks : List (Addr × List Int), vs = ks.map (fun p => V.ref p.1) ∧ ks.map (·.2) = bs ∧ ∀ p ∈ ks, H p.1 = some (.tup (p.2.map V.int)) ∧ ¬ O p.1 := by
  intro vs bs
  induction bs generalizing vs with
  | nil =>
    intro h
    cases h
    exact ⟨[], rfl, rfl, fun p hp => nomatch hp⟩
  | cons b bs ih =>
    intro h
    cases h with
    | cons a t =>
      obtain ⟨⟨q, rfl, e⟩, n⟩ := row_of a
      obtain ⟨ks, rfl, rfl, z⟩ := ih t
      refine ⟨(q, b) :: ks, rfl, rfl, fun p hp => ?_⟩
      rcases List.mem_cons.mp hp with rfl | hp
      · exact ⟨e, n q rfl⟩
      · exact z p hp
/-- sorted(set(xs)): the same tuples, ascending -/
def dSetT (t : TD) : TD := fun E Q => t E fun d n => ∃ (bs : List (List Int)) (k : Nat) (B : Int), d = .list (bs.map tupI) ∧ bs.length < 64 ∧ 1 ≤ k ∧ (∀ b ∈ bs, b.length = k ∧ TS.Bd B b) ∧ ∀ cs : List (List Int), cs.Pairwise (· < ·) → (∀ b, b ∈ cs ↔ b ∈ bs) → Q (.list (cs.map tupI)) n
theorem pl_sortedSetT {e : Expr} {t : TD} {p p2 pos pos2 : Pos} (hc : X.calm = true) (hu : X.A.units + 65 < cLine) (he : PB X G e t) (hm : X.mg "sorted" = none) (hm2 : X.mg "set" = none) (hg : Gl X "sorted" := by rfl) (hg2 : Gl X "set" := by rfl)
    (hs : starEach [e] X.env = (false, eval e X.env) :: starEach [] X.env := by rfl) (hs2 : starEach [.Call (.Name "set" p2) [e] [] pos2] X.env = (false, eval (.Call (.Name "set" p2) [e] [] pos2) X.env) :: starEach [] X.env := by rfl) :
    PL X G (.Call (.Name "sorted" p) [.Call (.Name "set" p2) [e] [] pos2] [] pos) (dSetT t) :=
  PE.wk (pe_callB (cr_sortedT hc) hg hm (by decide +kernel) (pa_cons (pe_callTy (cr_setOfT hc (by omega)) hg2 hm2 (by decide +kernel) (pa_cons he pa_nil hs) (he := hs)) pa_nil hs2) (he := hs2)) fun σ H Q ⟨O, E, Qd, r, im, z⟩ => by
    refine ⟨O, E, _, r, ?_, z⟩
    rintro d n v H1 k1 i1 rv ⟨bs, k, B, rfl, hl, hk, hb, q⟩
    have r1 := r.step k1 i1
    have rv' : ∃ a vs, v = .ref a ∧ H1 a = some (.lst vs) ∧ DvL O H1 vs (bs.map tupI) := by
      rcases rv with rv | ⟨a, vs, ds, rfl, e, h1, d1, _⟩
      · obtain ⟨a, vs, rfl, h1, _, d1⟩ := Dv.unL rv
        exact ⟨a, vs, rfl, h1, d1⟩
      · cases e
        exact ⟨a, vs, rfl, h1, d1⟩
    obtain ⟨a, vs, rfl, h1, d1⟩ := rv'
    obtain ⟨ks, rfl, rfl, hks⟩ := rows_of d1
    refine ⟨a, ks, rfl, sq_of h1, fun p hp => st_of (hks p hp).1, by simpa using hl, fun p L hp sub all => ?_⟩
    have s2 := same_upd' (o := SetTO X.prog X.w p L) hp
    refine ⟨p, L, k, B, rfl, upd_same, fun x hx => st_of (s2 _ _ (hks x (sub x hx)).1), hk, fun x hx => hb _ (List.mem_map.mpr ⟨x, sub x hx, rfl⟩), fun L' p5 pm nd few pw hp5 => ?_⟩
    have s3 := same_upd' (o := .lst (L'.map fun q => V.ref q.1)) hp5
    have inK : ∀ x ∈ L', x ∈ ks := fun x hx => sub x (pm.mem_iff.mp hx)
    have dv : ∀ (l : List (Addr × List Int)), (∀ x ∈ l, x ∈ ks) → DvL (fun x => O x ∨ x = p5) (upd (upd H1 p (SetTO X.prog X.w p L)) p5 (.lst (L'.map fun q => V.ref q.1))) (l.map fun q => V.ref q.1) ((l.map (·.2)).map tupI) := fun l => by
      induction l with
      | nil => exact fun _ => .nil
      | cons x l ih =>
        intro h
        obtain ⟨e, n⟩ := hks x (h x List.mem_cons_self)
        refine .cons (row_mk (s3 _ _ (s2 _ _ e)) (fun z => z.elim n fun z => ?_)) (ih fun y hy => h y (List.mem_cons_of_mem _ hy))
        have e2 := s2 _ _ e
        rw [z, hp5] at e2
        cases e2
    obtain ⟨k3, i3⟩ := r1.fin (fun b o e => s3 b o (s2 b o e))
    refine im _ n _ _ (k1.trans k3) i3 ⟨p5, _, _, rfl, rfl, ?_, upd_same, dv L' inK⟩ (q (L'.map (·.2)) ?_ fun b => ?_)
    · have h15 : H1 p5 = none := by
        by_cases c5 : p5 = p
        · rw [c5]; exact hp
        · rw [upd_ne c5] at hp5
          exact hp5
      cases e0 : H p5 with
      | none => rfl
      | some u =>
        by_cases qs : G.F.S p5
        · exact (G.F.al n H1 p5 i1 qs h15).elim
        · exact (Stay.ne (k1 p5 u e0 qs) h15).elim
    · rw [List.pairwise_map]
      have nd' : L'.Pairwise fun x y => x.2 ≠ y.2 := by rw [List.Nodup, List.pairwise_map] at nd; exact nd
      refine List.Pairwise.imp_of_mem (fun {x y} hx hy h => ?_) (pw.and nd')
      obtain ⟨x1, x2⟩ := hb _ (List.mem_map.mpr ⟨x, inK x hx, rfl⟩)
      obtain ⟨y1, y2⟩ := hb _ (List.mem_map.mpr ⟨y, inK y hy, rfl⟩)
      exact code_le_lt _ _ (by rw [x1, y1]) x2 y2 h.1 h.2
    · constructor
      · intro h
        obtain ⟨x, hx, rfl⟩ := List.mem_map.mp h
        exact List.mem_map.mpr ⟨x, inK x hx, rfl⟩
      · intro h
        obtain ⟨x, hx, rfl⟩ := List.mem_map.mp h
        obtain ⟨y, hy, e⟩ := List.mem_map.mp (all x hx)
        exact List.mem_map.mpr ⟨y, pm.mem_iff.mpr hy, e⟩
end
end Dl
/-! tuple * int, also once; text rows -/
namespace Dl
open PySem PySem.Spec PyProof.Rows L2 Gd
theorem tuple_mul1 (l : Addr) (items : Array Value) (n : Nat) (dd : Option Addr) (sl : Array (Option Value)) (u : Tok) :
    Meets (Builtin.«tuple.__mul__» ⟨[.ref l, .int 1 u], []⟩) (fun _ R s => s.heap.get? l = some { cls := .type "tuple", dict := dd, data := .seq items n, slots := sl } ∧
      R (.ok (.ret (Value.ref l))) s) :=
  .of_wp fun prog w A R s h => by
    obtain ⟨hp, g, d, tk, os⟩ := s
    obtain ⟨hl, h⟩ := h
    have f1 := AutoSeq1.idx_int
    wp_walk using wpAny_loadPart' hl
    exact ⟨_, rfl, h⟩
def rRep1 (K : PySem.W.Frag) : R2 := fun x y H Q => ∃ l xs, x = .ref l ∧ y = .int 1 ∧ SqT K H l xs ∧ Q (.ref l) H
section
variable {X : Cx} {G : Gx}
theorem op_rep1 : OpR X (binaryOp .Mult) (rRep1 X.K) := by
  intro pins s σ H x y v u Q I rx ry h
  obtain ⟨l, xs, rfl, rfl, hT, q⟩ := h
  cases rx
  obtain ⟨t, rfl⟩ := ry
  obtain ⟨its, r, ⟨⟨cls, dd, data, sl⟩, ho, hc, n, hd⟩, hs⟩ := I.tuple hT
  simp only at hc hd
  subst hc hd
  refine wpAny_binaryOp_repeat_ref (T := "tuple") (U := "int") (by decide) ⟨_, ho, rfl⟩ (fun s' => typeIs_int s' 1 t) noFill_tuple_mul F.fills_int_mul F.slot_int_rmul repeat_tuple F.slot_int_index.lookup
    (call_meets F.slot_int_rmul (typeIs_int s 1 t) F.entry_int_rmul (F.args_int_rmul_2 _ _) (int_rmul_tuple 1 t l its.toArray n dd sl)
      ⟨ho, rfl, ⟨_, ho, rfl⟩, call_meets F.slot_tuple_mul ⟨_, ho, rfl⟩ F.entry_tuple_mul (F.args_tuple_mul_2 _ _) (tuple_mul1 l its.toArray n dd sl t) ⟨ho, ?_⟩⟩)
  exact ⟨.ref l, H, I, rfl, q⟩
@[irreducible] def gMul1 : PyData → PyData → Option PyData
  | .tuple a, .int k => if k = 1 then some (.tuple a) else gRepT (.tuple a) (.int k)
  | x, y => gMulX x y
theorem op2_mul1 {K : PySem.W.Frag} : Op2 (fun x y H Q => (rI CMul (fun i j => .int (i * j)) x y H Q ∨ rRepT K x y H Q) ∨ rRep1 K x y H Q) gMul1 := by
  intro O H x y dx dy z Q al bx by' e q
  unfold gMul1 at e
  split at e
  · rename_i a k
    split at e
    · rename_i h1
      cases e
      subst h1
      obtain ⟨p, vs, rfl, h1, d1, w⟩ := bx.tup
      exact .inr ⟨p, vs, rfl, by'.int, st_of h1, nw_now q w⟩
    · exact .inl (op2_mulX O H x y _ _ z Q al bx by' (show gMulX (.tuple a) (.int k) = some z from e) q)
  · exact .inl (op2_mulX O H x y _ _ z Q al bx by' e q)
theorem pd_mul1 {a b : Expr} {ta tb : TD} {pos : Pos} (ha : PB X G a ta) (hb : PB X G b tb) : PD X G (.BinOp a .Mult b pos) (dOp gMul1 ta tb) := PE.wk (pe_op ((op_mul.or op_repT).or op_rep1) ha hb) (dop op2_mul1)
end
theorem mul1_tupI {ns : List Int} {k : Nat} {x : Int} (e : x = k) (h1 : 1 ≤ k) (hk : k ≤ 1000) (h0 : ns ≠ []) (hl : ns.length ≤ 1000) : gMul1 (tupI ns) (.int x) = some (tupI (List.replicate k ns).flatten) := by
  unfold gMul1
  show (if x = 1 then some (tupI ns) else gRepT (tupI ns) (.int x)) = _
  by_cases h : k = 1
  · rw [if_pos (by omega), h]
    simp
  · rw [if_neg (by omega)]
    exact mul_tupI e (by omega) hk h0 hl
theorem mul1_int {i j : Int} (h : (-(2 ^ 63) ≤ i ∧ i ≤ 2 ^ 63) ∨ (-(2 ^ 63) ≤ j ∧ j ≤ 2 ^ 63)) : gMul1 (.int i) (.int j) = some (.int (i * j)) := by
  unfold gMul1
  show (if cMul i j = true then _ else _) = _
  rw [show cMul i j = true from decide_eq_true h, if_pos rfl]
end Dl
/-! ### a block again and again -/
namespace Tx
open PySem PySem.Spec PyProof.Rows L2 Gd Dl Sh
def rep (b : List Int) (k : Nat) : List Int := (List.replicate k b).flatten
theorem rep_len (b : List Int) (k : Nat) : (rep b k).length = k * b.length := by
  unfold rep
  induction k with
  | zero => simp
  | succ k ih => rw [List.replicate_succ, List.flatten_cons, List.length_append, ih, Nat.succ_mul]; omega
theorem en_rep {b : List Int} (hb : 0 < b.length) : ∀ {k i : Nat}, i < k * b.length → en (rep b k) i = en b (i % b.length)
  | 0, i, h => by omega
  | k + 1, i, h => by
    have e : rep b (k + 1) = b ++ rep b k := by unfold rep; rw [List.replicate_succ, List.flatten_cons]
    rw [e, en_app]
    by_cases hi : i < b.length
    · rw [if_pos hi, Nat.mod_eq_of_lt hi]
    · rw [if_neg hi, en_rep hb (by rw [Nat.succ_mul] at h; omega)]
      congr 1
      conv => rhs; rw [show i = (i - b.length) + b.length by omega, Nat.add_mod_right]
theorem list_eq_en {a b : List Int} (hl : a.length = b.length) (h : ∀ i, i < a.length → en a i = en b i) : a = b := by
  refine List.ext_getElem hl fun i h1 h2 => ?_
  have := h i h1
  unfold en at this
  rw [List.getD_eq_getElem?_getD, List.getElem?_eq_getElem h1, List.getD_eq_getElem?_getD, List.getElem?_eq_getElem h2] at this
  exact this
theorem sub_rep {b : List Int} (hb : 0 < b.length) {k k' q p : Nat} (h : q + p ≤ k * b.length) (h' : q % b.length + p ≤ k' * b.length) : sub (rep b k) q p = sub (rep b k') (q % b.length) p := by
  refine list_eq_en (by rw [sub_length (by rw [rep_len]; exact h), sub_length (by rw [rep_len]; exact h')]) fun i hi => ?_
  rw [sub_length (by rw [rep_len]; exact h)] at hi
  rw [en_sub hi, en_sub hi, en_rep hb (by omega), en_rep hb (by omega)]
  congr 1
  rw [Nat.mod_add_mod]
/-- whether the pattern stands at s in the block repeated without an end -/
def atS (b pt : List Int) (s : Nat) : Bool := decide (shp (sub (rep b (pt.length + 1)) s pt.length) = shp pt)
/-- the places below N at which it stands -/
def cnt (b pt : List Int) (N : Nat) : Nat := ((List.range N).filter fun q => atS b pt (q % b.length)).length
def cntF (b pt : List Int) (x : Int) : Int := (((List.range b.length).filter fun s => atS b pt s).map fun s : Nat => (x - s) / (b.length : Int) + 1).sum
theorem sum_map_add {f g : Nat → Int} : ∀ l : List Nat, (l.map fun s => f s + g s).sum = (l.map f).sum + (l.map g).sum
  | [] => rfl
  | x :: l => by simp only [List.map_cons, List.sum_cons, sum_map_add l]; omega
theorem sum_ind {m : Nat} : ∀ l : List Nat, l.Nodup → (l.map fun s => if s = m then (1 : Int) else 0).sum = if m ∈ l then 1 else 0
  | [], _ => rfl
  | x :: l, h => by
    obtain ⟨h1, h2⟩ := List.nodup_cons.mp h
    rw [List.map_cons, List.sum_cons, sum_ind l h2]
    by_cases e : x = m
    · subst e
      rw [if_pos rfl, if_neg h1, if_pos List.mem_cons_self]
      rfl
    · rw [if_neg e, Int.zero_add]
      by_cases z : m ∈ l
      · rw [if_pos z, if_pos (List.mem_cons_of_mem _ z)]
      · rw [if_neg z, if_neg (fun y => (List.mem_cons.mp y).elim (fun y => e y.symm) z)]
theorem div_step {B s : Nat} (hs : s < B) (N : Nat) : ((N : Int) - (s : Int)) / (B : Int) = ((N : Int) - 1 - (s : Int)) / (B : Int) + if s = N % B then 1 else 0 := by
  have hB : (0 : Int) < B := by omega
  have e1 := Int.emod_add_mul_ediv ((N : Int) - 1 - (s : Int)) (B : Int)
  have r1 := Int.emod_nonneg ((N : Int) - 1 - (s : Int)) (show (B : Int) ≠ 0 by omega)
  have r2 := Int.emod_lt_of_pos ((N : Int) - 1 - (s : Int)) hB
  generalize ((N : Int) - 1 - (s : Int)) / (B : Int) = q at *
  generalize ((N : Int) - 1 - (s : Int)) % (B : Int) = r at *
  have n1 := Nat.mod_add_div N B
  have n2 := Nat.mod_lt N (show 0 < B by omega)
  generalize N % B = nr at *
  generalize N / B = nq at *
  by_cases hr : r = (B : Int) - 1
  · -- N - s = (q + 1) B
    have hN : (N : Int) - (s : Int) = (q + 1) * B := by rw [Int.add_mul, Int.one_mul, Int.mul_comm q]; omega
    rw [hN, Int.mul_ediv_cancel _ (by omega)]
    have : s = nr := by
      have hNn : (N : Int) = (nr : Int) + (B : Int) * (nq : Int) := by rw [← n1]; simp
      have hh : (s : Int) - nr = (B : Int) * ((nq : Int) - (q + 1)) := by rw [Int.mul_sub, Int.mul_comm (B : Int) (q + 1)]; omega
      have : (nq : Int) - (q + 1) = 0 := by
        rcases Int.lt_trichotomy ((nq : Int) - (q + 1)) 0 with z | z | z
        · have : (B : Int) * ((nq : Int) - (q + 1)) ≤ (B : Int) * (-1) := Int.mul_le_mul_of_nonneg_left (by omega) (by omega)
          omega
        · exact z
        · have : (B : Int) * 1 ≤ (B : Int) * ((nq : Int) - (q + 1)) := Int.mul_le_mul_of_nonneg_left (by omega) (by omega)
          omega
      rw [this, Int.mul_zero] at hh
      omega
    rw [if_pos this]
  · have hq : ((N : Int) - (s : Int)) / (B : Int) = q := by
      have : (N : Int) - (s : Int) = (r + 1) + B * q := by omega
      rw [this, Int.add_mul_ediv_left _ _ (by omega), Int.ediv_eq_zero_of_lt (by omega) (by omega)]
      omega
    have : s ≠ nr := by
      intro z
      have hNn : (N : Int) = (nr : Int) + (B : Int) * (nq : Int) := by rw [← n1]; simp
      have hh : (B : Int) * ((nq : Int) - q) = r + 1 := by rw [Int.mul_sub]; omega
      rcases Int.lt_trichotomy ((nq : Int) - q) 0 with y | y | y
      · have : (B : Int) * ((nq : Int) - q) ≤ (B : Int) * (-1) := Int.mul_le_mul_of_nonneg_left (by omega) (by omega)
        omega
      · rw [y, Int.mul_zero] at hh
        omega
      · have : (B : Int) * 1 ≤ (B : Int) * ((nq : Int) - q) := Int.mul_le_mul_of_nonneg_left (by omega) (by omega)
        omega
    rw [if_neg this, hq]
    omega
theorem cnt_eq {b pt : List Int} (hb : 0 < b.length) : ∀ N : Nat, (cnt b pt N : Int) = cntF b pt ((N : Int) - 1)
  | 0 => by
    have e0 : cnt b pt 0 = 0 := rfl
    rw [e0]
    unfold cntF
    have : ∀ l : List Nat, (∀ s ∈ l, s < b.length) → (l.map fun s : Nat => (((0 : Nat) : Int) - 1 - s) / (b.length : Int) + 1).sum = 0 := by
      intro l
      induction l with
      | nil => intro _; rfl
      | cons x l ih =>
        intro h
        have hx := h x List.mem_cons_self
        rw [List.map_cons, List.sum_cons, ih fun s hs => h s (List.mem_cons_of_mem _ hs)]
        have : (((0 : Nat) : Int) - 1 - (x : Int)) / (b.length : Int) = -1 := by
          rw [Int.ediv_eq_iff_of_pos (by omega)]
          omega
        omega
    exact (this _ fun s hs => List.mem_range.mp (List.mem_filter.mp hs).1).symm
  | N + 1 => by
    have ih := cnt_eq (b := b) (pt := pt) hb N
    have e1 : cnt b pt (N + 1) = cnt b pt N + if atS b pt (N % b.length) then 1 else 0 := by
      unfold cnt
      rw [List.range_succ, List.filter_append, List.length_append, List.filter_cons, List.filter_nil]
      cases atS b pt (N % b.length) <;> rfl
    have nd : ((List.range b.length).filter fun s => atS b pt s).Nodup := List.Pairwise.filter _ (List.nodup_range (n := b.length))
    have e2 : cntF b pt (((N + 1 : Nat) : Int) - 1) = cntF b pt ((N : Int) - 1) + if N % b.length ∈ (List.range b.length).filter fun s => atS b pt s then 1 else 0 := by
      rw [← sum_ind _ nd]
      unfold cntF
      rw [← sum_map_add]
      congr 1
      refine List.map_congr_left fun s hs => ?_
      have := div_step (List.mem_range.mp (List.mem_filter.mp hs).1) N
      rw [show ((N + 1 : Nat) : Int) - 1 = (N : Int) by omega, this]
      omega
    rw [e1, e2]
    have hm : (N % b.length ∈ (List.range b.length).filter fun s => atS b pt s) ↔ atS b pt (N % b.length) = true := by
      rw [List.mem_filter, List.mem_range]
      exact ⟨fun z => z.2, fun z => ⟨Nat.mod_lt _ hb, z⟩⟩
    cases h : atS b pt (N % b.length) with
    | true =>
      rw [if_pos (hm.mpr h), if_pos rfl]
      omega
    | false =>
      rw [if_neg (show ¬ (false = true) by decide), if_neg (fun z => by rw [hm.mp z] at h; cases h)]
      omega
end Tx
namespace Lw
open PySem PySem.Spec PyProof.Rows L2 Gd Dl Sh
local macro_rules | `(tactic| walk_at "go") => `(tactic| repeat (refine opt_of rfl ?_))
local macro_rules | `(tactic| walk_at "en") => `(tactic| dsimp only [dBor, dVar, setsD, List.set_cons_zero, List.set_cons_succ, List.getElem?_cons_zero, List.getElem?_cons_succ])
theorem eqv_bool (a b : Bool) : PyData.eqv (.bool a) (.bool b) = decide (a = b) := by cases a <;> cases b <;> decide
theorem neq_bl {a b : Bool} (h : a = b) : gEq true (.bool a) (.bool b) = some (.bool false) := by
  rw [eq_data pln_bool pln_bool (by decide), eqv_bool, decide_eq_true h]
  rfl
theorem neq_same {k : Nat} {d : PyData} (h : Pln k d) (hk : k ≤ 64) : gEq true d d = some (.bool false) := by
  rw [eq_data h h hk, PySem.SeqAt.eqv_refl d h.cl]
  rfl
theorem pln_shs {L : List (List Int)} : Pln 2 (.list (L.map tupI)) := pln_lst fun d hd => by
  obtain ⟨x, _, rfl⟩ := List.mem_map.mp hd
  exact pln_tupI
theorem pln_lstI {L : List Int} : Pln 1 (lstI L) := pln_lst fun d hd => by
  obtain ⟨x, _, rfl⟩ := List.mem_map.mp hd
  exact pln_int
theorem isSh_of {a : List Int} {k : Nat} (oa : okA a) (h1 : 1 ≤ a.length) (h2 : a.length ≤ k) : isShB k (.tuple (a.map dI)) = true :=
  isSh_yes (by rw [List.length_map]; exact h1) (by rw [List.length_map]; exact h2) fun j hj => oa j (by rw [List.length_map] at hj; exact hj)
theorem cat_bd {m : Nat} (h : m ≤ 60) : 0 < cat m ∧ cat m ≤ 10 ^ 40 := by
  have z : ((List.range 61).all fun m => decide (0 < cat m ∧ cat m ≤ 10 ^ 40)) = true := by decide +kernel
  exact of_decide_eq_true (List.all_eq_true.mp z m (List.mem_range.mpr (by omega)))
theorem dsI0 (sh : List Int) : (0 : Int) ∈ dsI sh := by unfold dsI dsL; exact List.mem_cons_self
theorem okA_zero : ∀ m : Nat, okA (List.replicate m 0)
  | 0 => okA_nil
  | m + 1 => by
    rw [List.replicate_succ']
    exact okA_snoc (okA_zero m) (dsI0 _)
theorem sidx_zero (m : Nat) : sidxD ((List.replicate m (0 : Int)).map dI) = 0 := by
  rw [sidx_low]
  have z : ∀ k, Zm (fun _ => 0) k = 0 := fun k => by
    induction k with
    | zero => rfl
    | succ k ih => rw [Zm_succ, ih]; rfl
  refine (Zm_congr (g := fun _ => 0) fun j hj => ?_).trans (z _)
  have e : ev ((List.replicate m (0 : Int)).map dI) j = 0 := by
    rw [List.length_map, List.length_replicate] at hj
    unfold ev
    rw [List.map_replicate, List.getD_eq_getElem?_getD, List.getElem?_replicate, if_pos hj]
    rfl
  unfold lowAt
  rw [e, show (dsL ((List.replicate m (0 : Int)).map dI) j).idxOf 0 = 0 by unfold dsL; exact List.idxOf_cons_self]
  rfl
/-- two ascending lists with the same members -/
theorem asc_same {α : Type} [LT α] (irr : ∀ a : α, ¬ a < a) (asy : ∀ a b : α, a < b → ¬ b < a) : ∀ {xs ys : List α}, xs.Pairwise (· < ·) → ys.Pairwise (· < ·) → (∀ x, x ∈ xs ↔ x ∈ ys) → xs = ys
  | [], [], _, _, _ => rfl
  | x :: r, [], _, _, h => nomatch (h x).mp List.mem_cons_self
  | [], y :: q, _, _, h => nomatch (h y).mpr List.mem_cons_self
  | x :: r, y :: q, px, py, h => by
    obtain ⟨p1, p2⟩ := List.pairwise_cons.mp px
    obtain ⟨q1, q2⟩ := List.pairwise_cons.mp py
    have e : x = y := by
      rcases List.mem_cons.mp ((h x).mp List.mem_cons_self) with e | e
      · exact e
      · rcases List.mem_cons.mp ((h y).mpr List.mem_cons_self) with e2 | e2
        · exact e2.symm
        · exact (asy _ _ (q1 x e) (p1 y e2)).elim
    subst e
    rw [asc_same irr asy p2 q2 fun z => ?_]
    constructor
    · intro hz
      rcases List.mem_cons.mp ((h z).mp (List.mem_cons_of_mem _ hz)) with e | e
      · rw [e] at hz
        exact (irr _ (p1 x hz)).elim
      · exact e
    · intro hz
      rcases List.mem_cons.mp ((h z).mpr (List.mem_cons_of_mem _ hz)) with e | e
      · rw [e] at hz
        exact (irr _ (q1 x hz)).elim
      · exact e
/-- the shape at an index -/
def shAt (m : Nat) (x : Int) : List Int := (satGo m m [] x).getD []
theorem shAt_ok {m : Nat} (h1 : 1 ≤ m) (h2 : m ≤ 60) {x : Int} (h0 : 0 ≤ x) (hx : x < cat m) : satGo m m [] x = some (shAt m x) ∧ (shAt m x).length = m ∧ okA (shAt m x) ∧ sidxD ((shAt m x).map dI) = x := by
  obtain ⟨u, e, e2, e3, e4⟩ := sat_all h1 h2 h0 hx
  have : shAt m x = u := by unfold shAt; rw [e]; rfl
  rw [this]
  exact ⟨e, e2, e3, e4⟩
theorem shAt_zero {m : Nat} (h1 : 1 ≤ m) (h2 : m ≤ 60) : shAt m 0 = List.replicate m 0 := by
  obtain ⟨e, e2, e3, e4⟩ := shAt_ok h1 h2 (Int.le_refl 0) (cat_bd h2).1
  exact sidx_inj (by rw [e2, List.length_replicate]) e3 (okA_zero m) (by rw [e4, sidx_zero])
theorem shAt_asc {m : Nat} (h1 : 1 ≤ m) (h2 : m ≤ 60) {ms : List Int} (p : ms.Pairwise (· < ·)) (b : ∀ x ∈ ms, 0 ≤ x ∧ x < cat m) : (ms.map (shAt m)).Pairwise (· < ·) := by
  rw [List.pairwise_map]
  refine List.Pairwise.imp_of_mem (fun {x y} hx hy h => ?_) p
  obtain ⟨_, e2, e3, e4⟩ := shAt_ok h1 h2 (b x hx).1 (b x hx).2
  obtain ⟨_, f2, f3, f4⟩ := shAt_ok h1 h2 (b y hy).1 (b y hy).2
  exact (sidx_lt_iff (by rw [e2, f2]) e3 f3).mp (by rw [e4, f4]; exact h)
theorem okA_bd {a : List Int} (ok : okA a) : ∀ x ∈ a, 0 ≤ x ∧ x ≤ a.length := by
  intro x hx
  obtain ⟨i, hi, rfl⟩ := List.mem_iff_getElem.mp hx
  have h := (okB_el (ok i hi)).2
  have e : ev (a.map dI) i = a[i] := by
    unfold ev
    rw [List.getD_eq_getElem?_getD, List.getElem?_map, List.getElem?_eq_getElem hi]
    rfl
  rw [e] at h
  omega
theorem lex_snoc : ∀ u v : List Int, u.length = v.length → ((u ++ [0] < v ++ [0]) ↔ u < v)
  | [], [], _ => ⟨fun h => (List.lt_irrefl _ h).elim, fun h => (List.lt_irrefl _ h).elim⟩
  | x :: u, y :: v, h => by
    rw [List.cons_append, List.cons_append, List.cons_lt_cons_iff, List.cons_lt_cons_iff, lex_snoc u v (by simpa using h)]
  | [], y :: v, h => by cases h
  | x :: u, [], h => by cases h
section
variable {P : Program} {w : World} {K : PySem.W.Frag} {mg : Str → Option Value} {base : Heap}
abbrev s_law : Stmt := topS 23
abbrev N_law : List Str := ["_law_script", "_law_stream_here", "_law_turn", "_law_many", "_law_shape", "_law_other", "_law_index", "_law_total", "_law_near", "_law_rows", "_law_one"]
theorem sc_law : FnScope N_law ["_law_script"] (defScope s_law) := ⟨rfl, rfl, rfl, by decide +kernel, rfl, by decide +kernel, by decide +kernel⟩
-- slots: 0 _law_script, 1 _law_stream_here, 2 _law_turn, 3 _law_many, 4 _law_shape, 5 _law_other, 6 _law_index, 7 _law_total, 8 _law_near, 9 _law_rows, 10 _law_one
theorem ok_law {f : Addr} {fd : FuncData} {k : Nat} {fS : Addr} {dS : FuncData} {c_NotShape c_NoIndex : Addr} {f_shape_index : Addr} {d_shape_index : FuncData} {f_shape_at : Addr} {d_shape_at : FuncData} {f__law_draw : Addr} {d__law_draw : FuncData} {f__law_same : Addr} {d__law_same : FuncData} {f__law_is_int : Addr} {d__law_is_int : FuncData} {f_count_shapes : Addr} {d_count_shapes : FuncData} {f__law_long_shape : Addr} {d__law_long_shape : FuncData} (F : Fun K "law" "law" s_law f fd) (CS : Cal P w K mg base k "_law_stream" fS dS ["_law_script"] (spStream K)) (c_shape_index : CdX P w K mg base k "shape_index" f_shape_index d_shape_index ["value"] (C_shape_index c_NotShape)) (c_shape_at : CdX P w K mg base k "shape_at" f_shape_at d_shape_at ["n", "index"] (C_shape_at c_NoIndex)) (c__law_draw : Cd P w K mg base k "_law_draw" f__law_draw d__law_draw ["_law_stream_here", "_law_many"] C__law_draw) (c__law_same : CdG P w K mg base k "_law_same" f__law_same d__law_same ["_law_found", "_law_expected"] (C__law_same 2)) (c__law_is_int : Cd P w K mg base k "_law_is_int" f__law_is_int d__law_is_int ["_law_value", "_law_low", "_law_high"] C__law_is_int) (c_count_shapes : Cd P w K mg base k "count_shapes" f_count_shapes d_count_shapes ["n"] C_count_shapes) (c__law_long_shape : Cd P w K mg base k "_law_long_shape" f__law_long_shape d__law_long_shape ["_law_stream_here", "_law_many"] C__law_long_shape) (m_len : mg "len" = none) (m_max : mg "max" = none) (m_min : mg "min" = none) (m_range : mg "range" = none) (m_set : mg "set" = none) (m_sorted : mg "sorted" = none) : FnG P w K mg base CX0 (k + 1) f fd ["_law_script"] (spLaw K) := by
  refine fnG_of F sc_law (fun vs H Q E h => ?_) (fun cdv A outer st H vs Q E hr hg h => ?_)
  · obtain ⟨sc, ns, rfl, _⟩ := h
    rfl
  · obtain ⟨sc, ss, rfl, hS, hlen, q⟩ := h
    refine ⟨_, pss_cons (ps_set (i := 1) sc_law.nd rfl (by first | exact .inl rfl | exact .inr rfl) (pe_call CS.G hr (by rfl) CS.g CS.kp CS.b .nil pass0 (pa_cons (pv 0) pa_nil))) (exG fun G =>
        (zs_cons (z_for (tg := (.nm 2)) PassesOwn.never rfl (j_range1 pd_int m_range) (pg_name (i := 2) sc_law.nd rfl (by first | exact .inl rfl | exact .inr rfl))
          (zs_cons (z_set (i := 3) sc_law.nd rfl (by first | exact .inl rfl | exact .inr rfl) (pd_add (PB.of pd_int) (PB.of (pd_call c__law_draw.G hr c__law_draw.g c__law_draw.kp c__law_draw.b (pr_con (pv 1) (pr_cons (pd_ix (PB.of (PD.ofL (pl_lst (pr_cons pd_int (pr_cons pd_int (pr_cons pd_int pr_nil)))))) (PB.of (pd_mod (pb_var (pv 2)) (PB.of pd_int))) (fun _ _ => rfl)) pr_nil))))))
          (zs_cons (z_par (i := 4) (j := 5) rfl sc_law.nd rfl rfl (by decide) rfl rfl (pr_cons (pd_call c__law_long_shape.G hr c__law_long_shape.g c__law_long_shape.kp c__law_long_shape.b (pr_con (pv 1) (pr_cons (pd_var (pv 3)) pr_nil))) (pr_cons (pd_call c__law_long_shape.G hr c__law_long_shape.g c__law_long_shape.kp c__law_long_shape.b (pr_con (pv 1) (pr_cons (pd_var (pv 3)) pr_nil))) pr_nil)) (by rfl))
          (zs_cons (z_par (i := 6) (j := 7) rfl sc_law.nd rfl rfl (by decide) rfl rfl (pr_cons (pd_callX0 c_shape_index.G hr c_shape_index.g c_shape_index.kp c_shape_index.b (pr_cons (pd_var (pv 4)) pr_nil)) (pr_cons (pd_call c_count_shapes.G hr c_count_shapes.g c_count_shapes.kp c_count_shapes.b (pr_cons (pd_var (pv 3)) pr_nil)) pr_nil)) (by rfl))
          (zs_cons (z_if (PW.pt (w_or (pq_not (pq_val (pd_call c__law_is_int.G hr c__law_is_int.g c__law_is_int.kp c__law_is_int.b (pr_cons (pd_var (pv 6)) (pr_cons pd_int (pr_cons (pd_sub (pb_var (pv 7)) (PB.of pd_int)) pr_nil)))))) (w_or1 (pq_not (pq_val (pd_callG c__law_same.G hr hg c__law_same.g c__law_same.kp c__law_same.b (pr_cons (pd_callX0 c_shape_at.G hr c_shape_at.g c_shape_at.kp c_shape_at.b (pr_cons (pd_var (pv 3)) (pr_cons (pd_var (pv 6)) pr_nil))) (pr_cons (pd_var (pv 4)) pr_nil))))))))
            (zs_one (z_ret (PB.of pd_bl)))
            zs_nil)
          (zs_cons (z_if (PW.pt (w_or (pq_cmp (op_neX hr.units) l_ne (PB.of (pd_cmp op_lt l_lt (PB.of (pd_callX0 c_shape_index.G hr c_shape_index.g c_shape_index.kp c_shape_index.b (pr_cons (pd_var (pv 5)) pr_nil))) (pb_var (pv 6)) (nomark _))) (PB.of (pd_cmp (op_ltT hr.units) l_ltT (pb_var (pv 5)) (pb_var (pv 4)) (nomark _))) (nomark _)) (w_or1 (pq_cmp (op_neX hr.units) l_ne (PB.of (pd_cmp (op_eqX hr.units) l_eq (PB.of (pd_callX0 c_shape_index.G hr c_shape_index.g c_shape_index.kp c_shape_index.b (pr_cons (pd_var (pv 5)) pr_nil))) (pb_var (pv 6)) (nomark _))) (PB.of (pd_cmp (op_eqX hr.units) l_eq (pb_var (pv 5)) (pb_var (pv 4)) (nomark _))) (nomark _)))))
            (zs_one (z_ret (PB.of pd_bl)))
            zs_nil)
          (zs_cons (z_set (i := 8) sc_law.nd rfl (by first | exact .inl rfl | exact .inr rfl) (PD.ofL (pl_lst (pr_cons pd_int (pr_cons (pd_max2 rfl (PB.of pd_int) (PB.of (pd_sub (pb_var (pv 6)) (PB.of pd_int))) m_max) (pr_cons (pd_var (pv 6)) (pr_cons (pd_min2 rfl (PB.of (pd_sub (pb_var (pv 7)) (PB.of pd_int))) (PB.of (pd_add (pb_var (pv 6)) (PB.of pd_int))) m_min) (pr_cons (pd_sub (pb_var (pv 7)) (PB.of pd_int)) (pr_cons (pd_call c__law_draw.G hr c__law_draw.g c__law_draw.kp c__law_draw.b (pr_con (pv 1) (pr_cons (pd_var (pv 7)) pr_nil))) pr_nil)))))))))
          (zs_cons (z_set (i := 8) sc_law.nd rfl (by first | exact .inl rfl | exact .inr rfl) (PD.ofL (pl_sortedSetL rfl (pb_var (pv 8)) m_sorted m_set)))
          (zs_cons (z_ownLc (i := 9) rfl sc_law.nd rfl rfl (sw_true rfl rfl rfl (by decide +kernel)) (own := [("_law_one", 10)]) (tg := (.nm 10)) (j_seq (pd_var (pv 8))) (blkOk_by (N := N_law) (sc := defScope s_law) (by decide +kernel)) (fun _ _ _ _ _ => (pg_name (i := 10) sc_law.nd rfl (by first | exact .inl rfl | exact .inr rfl))) (fun _ _ _ _ _ => ts_nil) (fun _ _ _ _ _ => (pd_callX0 c_shape_at.G hr c_shape_at.g c_shape_at.kp c_shape_at.b (pr_cons (pd_var (pv 3)) (pr_cons (pd_var (pv 10)) pr_nil)))) (by simp [tgIn]))
          (zs_cons (z_frz 9 (z_if (PW.pt (w_or (pq_cmp (op_neX hr.units) l_ne (pb_var (pv 9)) (PB.of (PD.ofL (pl_sortedSetT rfl (units65 hr) (pb_var (pv 9)) m_sorted m_set))) (nomark _)) (w_or1 (pq_cmp (op_neX hr.units) l_ne (PB.of (PD.ofL (pl_lc (own := [("_law_one", 10)]) (tg := (.nm 10)) rfl sc_law.nd (j_seq (pd_var (pv 9))) (blkOk_by (N := N_law) (sc := defScope s_law) (by decide +kernel)) (fun _ _ _ _ _ => (pg_name (i := 10) sc_law.nd rfl (by first | exact .inl rfl | exact .inr rfl))) (fun _ _ _ _ _ => ts_nil) (fun _ _ _ _ _ => (pd_callX0 c_shape_index.G hr c_shape_index.g c_shape_index.kp c_shape_index.b (pr_cons (pd_var (pv 10)) pr_nil))) (by simp [tgIn])))) (pb_var (pv 8)) (nomark _)))))
            (zs_one (z_ret (PB.of pd_bl)))
            zs_nil))
          (zs_cons (z_frz 9 (z_if (PW.pt (w_or (pq_cmp (op_neX hr.units) l_ne (PB.of (PD.ofL (pl_lc (own := [("_law_one", 10)]) (tg := (.nm 10)) rfl sc_law.nd (j_seq (pd_var (pv 9))) (blkOk_by (N := N_law) (sc := defScope s_law) (by decide +kernel)) (fun _ _ _ _ _ => (pg_name (i := 10) sc_law.nd rfl (by first | exact .inl rfl | exact .inr rfl))) (fun _ _ _ _ _ => ts_one (pq_cmp (op_neX hr.units) l_ne (PB.of (pd_len (pb_var (pv 10)) m_len)) (pb_var (pv 3)) (nomark _))) (fun _ _ _ _ _ => pd_int) (by simp [tgIn])))) (PB.of (PD.ofL (pl_lst pr_nil))) (nomark _)) (w_or1 (pq_cmp (op_neX hr.units) l_ne (PB.of (pd_ix (pb_var (pv 9)) (PB.of pd_int) (fun _ _ => rfl))) (PB.of (pd_mul1 (PB.of (pd_tup (pr_cons pd_int pr_nil))) (pb_var (pv 3)))) (nomark _)))))
            (zs_one (z_ret (PB.of pd_bl)))
            zs_nil))
          (zs_one (z_if (PW.pt (w_and (pq_cmp op_lt l_lt (pb_var (pv 3)) (PB.of pd_int) (nomark _)) (w_and1 (pq_cmp (op_neX hr.units) l_ne (PB.of (pd_cmp op_lt l_lt (PB.of (pd_callX0 c_shape_index.G hr c_shape_index.g c_shape_index.kp c_shape_index.b (pr_cons (pd_add (pb_var (pv 4)) (PB.of (pd_tup (pr_cons pd_int pr_nil)))) pr_nil))) (PB.of (pd_callX0 c_shape_index.G hr c_shape_index.g c_shape_index.kp c_shape_index.b (pr_cons (pd_add (pb_var (pv 5)) (PB.of (pd_tup (pr_cons pd_int pr_nil)))) pr_nil))) (nomark _))) (PB.of (pd_cmp (op_ltT hr.units) l_ltT (pb_var (pv 4)) (pb_var (pv 5)) (nomark _))) (nomark _)))))
            (zs_one (z_ret (PB.of pd_bl)))
            zs_nil)))))))))))))
        (zs_one (z_ret (PB.of pd_bl))))), ?_⟩
    refine ⟨.ref sc, rfl, sc, ss, rfl, hS, hlen, fun H1 s a b h01 hs0 ha0 hb0 sm => ?_⟩
    refine law_go (m := 9) sm (fun G hF => ?_) q
    walk_at "go"; refine And.intro (by decide) ?_
    walk_at "go"; refine for_Z _ (fun i E => ∃ y2 y3 y4 y5 y6 y7 y8 y9 n, E = ⟨[.no, .con G.F.s, y2, y3, y4, y5, y6, y7, y8, y9, .no], n⟩ ∧ n ≤ 300 * i) ⟨_, _, _, _, _, _, _, _, 0, rfl, by omega⟩ (fun i E D' hi h nx ct bk rt => ?_) (fun E h => rfl)
    obtain ⟨y2, y3, y4, y5, y6, y7, y8, y9, n, rfl, hn⟩ := h
    have hi' : i < 5 := hi
    walk_at "go"; refine And.intro (rfl) ?_
    walk_at "go"; try dsimp only [List.set_cons_zero, List.set_cons_succ]
    obtain ⟨dm, hdm, em⟩ := ix_mem (ds := [PyData.int 60, .int 12, .int 5]) (r := ((i : Nat) : Int) % 3) (by omega) (by show ((i : Nat) : Int) % 3 < 3; omega)
    obtain ⟨mo, rfl, hmo⟩ : ∃ mo : Int, dm = .int mo ∧ 5 ≤ mo ∧ mo ≤ 60 := by
      simp only [List.mem_cons, List.not_mem_nil, or_false] at hdm
      rcases hdm with rfl | rfl | rfl
      · exact ⟨60, rfl, by decide, by decide⟩
      · exact ⟨12, rfl, by decide, by decide⟩
      · exact ⟨5, rfl, by decide, by decide⟩
    walk_at "go"; refine opt_of (em) ?_
    walk_at "go"; refine And.intro rfl ⟨mo, rfl, hF, by show n < 1000000; omega, by omega, by omega, fun r r0 r1 => ?_⟩
    obtain ⟨m, hm⟩ : ∃ m : Nat, 1 + r = (m : Int) := ⟨(1 + r).toNat, by omega⟩
    have m1 : 1 ≤ m := by omega
    have m2 : m ≤ 60 := by omega
    walk_at "go"; try dsimp only [List.set_cons_zero, List.set_cons_succ]
    rw [hm]
    walk_at "go"; refine And.intro rfl ⟨m, rfl, hF, by show n + 1 < 900000; omega, m1, m2, fun a n1 la oa hn1 => ?_⟩
    have hn1 : n1 ≤ n + 1 + 1 + 2 * m := hn1
    walk_at "go"; refine And.intro rfl ⟨m, rfl, hF, by show n1 < 900000; omega, m1, m2, fun b n2 lb ob hn2 => ?_⟩
    have hn2 : n2 ≤ n1 + 1 + 2 * m := hn2
    obtain ⟨v, hv⟩ : ∃ v, v = sidxD (a.map dI) := ⟨_, rfl⟩
    obtain ⟨u, hu⟩ : ∃ u, u = sidxD (b.map dI) := ⟨_, rfl⟩
    obtain ⟨T, hT⟩ : ∃ T, T = cat m := ⟨_, rfl⟩
    have sa := sidx_cat oa (by omega) (by omega)
    rw [← hv, la, ← hT] at sa
    have hTb := cat_bd m2
    rw [← hT] at hTb
    have sha := isSh_of oa (by omega) (by omega) (k := 60)
    have shb := isSh_of ob (by omega) (by omega) (k := 60)
    walk_at "go"; try dsimp only [List.set_cons_zero, List.set_cons_succ]
    repeat (first | refine opt_of rfl ?_ | refine And.intro rfl ?_)
    refine ⟨_, rfl, sha, ?_⟩
    rw [← hv]
    walk_at "go"; refine And.intro rfl ⟨m, rfl, m1, m2, ?_⟩
    rw [← hT]
    walk_at "go"; try dsimp only [List.set_cons_zero, List.set_cons_succ]
    repeat (first | refine opt_of rfl ?_ | refine And.intro rfl ?_)
    refine ⟨_, _, rfl, ?_⟩
    rw [show plcD (T - 1 + 1) (.int v) = true from decide_eq_true ⟨sa.1, by omega⟩]
    walk_at "go"; try dsimp only [List.set_cons_zero, List.set_cons_succ]
    walk_at "go"; refine And.intro rfl ⟨m, _, rfl, m1, m2, fun R w e e2 => ?_, fun e => ?_⟩
    rotate_left
    · rw [show plcD (cat m) (.int v) = true from decide_eq_true ⟨sa.1, by omega⟩] at e
      cases e
    cases e
    have back := sat_back oa (by omega) (by omega)
    rw [la, ← hv] at back
    obtain rfl := Option.some.inj (e2.symm.trans back)
    walk_at "go"; refine And.intro rfl ⟨_, rfl, by decide, .inr (.inr ⟨_, rfl, by omega, by decide⟩), ?_⟩
    walk_at "go"; try dsimp only [List.set_cons_zero, List.set_cons_succ]
    walk_at "go"; refine And.intro rfl ⟨_, rfl, shb, ?_⟩
    rw [← hu]
    walk_at "go"; refine opt_of (ltT_of b w) ?_
    walk_at "go"; refine opt_of (neq_bl (a := decide (u < v)) (b := decide (b < w)) (by rw [decide_eq_decide, hu, hv]; exact sidx_lt_iff (by omega) ob oa)) ?_
    walk_at "go"; try dsimp only [List.set_cons_zero, List.set_cons_succ]
    walk_at "go"; refine And.intro rfl ⟨_, rfl, shb, ?_⟩
    rw [← hu]
    walk_at "go"; refine opt_of (eq_int) ?_
    walk_at "go"; refine opt_of (eq_tupI) ?_
    walk_at "go"; refine opt_of (neq_bl (a := decide (u = v)) (b := false != decide (b = w)) (by rw [Bool.false_bne, decide_eq_decide, hu, hv]; exact ⟨sidx_inj (by omega) ob oa, fun e => by rw [e]⟩)) ?_
    walk_at "go"; try dsimp only [List.set_cons_zero, List.set_cons_succ]
    walk_at "go"; refine And.intro rfl ⟨T, rfl, hF, by show n2 < 1000000; omega, hTb.1, hTb.2, fun t t0 t1 => ?_⟩
    walk_at "go"; try dsimp only [List.set_cons_zero, List.set_cons_succ]
    repeat (first | refine opt_of rfl ?_ | refine And.intro rfl ?_)
    walk_at "go"; try dsimp only [List.set_cons_zero, List.set_cons_succ]
    refine ⟨(by show (6 : Nat) < 60; decide), fun ms pw mem len => ?_⟩
    have mb : ∀ x ∈ ms, 0 ≤ x ∧ x < T := by
      intro x hx
      have := (mem x).mp hx
      simp only [List.mem_cons, List.not_mem_nil, or_false] at this
      rcases this with rfl | rfl | rfl | rfl | rfl | rfl
      all_goals (try split) <;> omega
    have m0 : (0 : Int) ∈ ms := (mem 0).mpr List.mem_cons_self
    have len : ms.length ≤ 6 := len
    have b2 : ∀ x ∈ ms, 0 ≤ x ∧ x < cat m := fun x hx => by rw [← hT]; exact mb x hx
    walk_at "go"; refine lc_M0 ms dI (fun x => tupI (shAt m x)) (fun x hx => ?_) (by omega) ?_
    · refine ⟨_, rfl, fun n R r => r, fun n R r => ?_⟩
      obtain ⟨e1, e2, e3, e4⟩ := shAt_ok m1 m2 (b2 x hx).1 (b2 x hx).2
      walk_at "go"; try dsimp only [List.set_cons_zero, List.set_cons_succ]
      walk_at "go"; refine And.intro rfl ⟨m, _, rfl, m1, m2, fun R w e f => ?_, fun e => ?_⟩
      · cases e
        obtain rfl := Option.some.inj (f.symm.trans e1)
        exact r
      · rw [show plcD (cat m) (.int x) = true from decide_eq_true (b2 x hx)] at e
        cases e
    walk_at "go"; try dsimp only [List.set_cons_zero, List.set_cons_succ]
    obtain ⟨L, hL⟩ : ∃ L, L = ms.map (shAt m) := ⟨_, rfl⟩
    have eL : ms.map (fun x => tupI (shAt m x)) = L.map tupI := by rw [hL, List.map_map]; rfl
    have lL : L.length = ms.length := by rw [hL, List.length_map]
    have pL : L.Pairwise (· < ·) := by rw [hL]; exact shAt_asc m1 m2 pw b2
    have kL : ∀ b ∈ L, b.length = m ∧ okA b := by
      intro b hb
      rw [hL] at hb
      obtain ⟨x, hx, rfl⟩ := List.mem_map.mp hb
      obtain ⟨_, e2, e3, _⟩ := shAt_ok m1 m2 (b2 x hx).1 (b2 x hx).2
      exact ⟨e2, e3⟩
    rw [eL]
    walk_at "go"; refine Exists.intro L ⟨m, 100, rfl, by omega, m1, fun b hb => ⟨(kL b hb).1, fun y hy => by have := okA_bd (kL b hb).2 y hy; have := (kL b hb).1; omega⟩, fun cs pc mc => ?_⟩
    obtain rfl : cs = L := asc_same (fun a => List.lt_irrefl a) (fun a b h => List.lt_asymm h) pc pL mc
    walk_at "go"; refine opt_of (neq_same (k := 2) pln_shs (by decide)) ?_
    walk_at "go"; try dsimp only [List.set_cons_zero, List.set_cons_succ]
    walk_at "go"; refine lc_M0 cs tupI (fun s => .int (sidxD (s.map dI))) (fun s hs => ?_) (by omega) ?_
    · refine ⟨_, rfl, fun n R r => r, fun n R r => ?_⟩
      obtain ⟨e1, e2⟩ := kL s hs
      walk_at "go"; try dsimp only [List.set_cons_zero, List.set_cons_succ]
      walk_at "go"; refine And.intro rfl ⟨_, rfl, isSh_of e2 (by omega) (by omega), ?_⟩
      exact r
    have eS : cs.map (fun s => PyData.int (sidxD (s.map dI))) = ms.map dI := by
      rw [hL, List.map_map]
      refine List.map_congr_left fun x hx => ?_
      obtain ⟨_, _, _, e4⟩ := shAt_ok m1 m2 (b2 x hx).1 (b2 x hx).2
      show PyData.int (sidxD ((shAt m x).map dI)) = .int x
      rw [e4]
    rw [eS]
    walk_at "go"; refine opt_of (neq_same (k := 1) pln_lstI (by decide)) ?_
    walk_at "go"; try dsimp only [List.set_cons_zero, List.set_cons_succ]
    walk_at "go"; refine lc_M cs tupI (fun _ => false) (fun _ => .int 1) (fun s hs => ?_) (by omega) ?_
    · refine ⟨_, rfl, fun n R r => ?_, fun h => nomatch h⟩
      walk_at "go"; try dsimp only [List.set_cons_zero, List.set_cons_succ]
      rw [List.length_map, (kL s hs).1]
      walk_at "go"; refine opt_of (neq_int) ?_
      rw [decide_eq_true rfl]
      exact r
    rw [List.filter_eq_nil_iff.mpr (fun _ _ => Bool.false_ne_true)]
    walk_at "go"; refine And.intro (by decide) ?_
    walk_at "go"; refine opt_of (neq_same (k := 1) (pln_lstI (L := [])) (by decide)) ?_
    walk_at "go"; try dsimp only [List.set_cons_zero, List.set_cons_succ]
    have c0 : (cs.map tupI).getD 0 .none = tupI (List.replicate m 0) := by
      rw [hL]
      cases ms with
      | nil => cases m0
      | cons x r =>
        have x0 : x = 0 := by
          rcases List.mem_cons.mp m0 with e | e
          · exact e.symm
          · have := (List.pairwise_cons.mp pw).1 0 e
            have := (b2 x List.mem_cons_self).1
            omega
        show tupI (shAt m x) = _
        rw [x0, shAt_zero m1 m2]
    have cl : 0 < cs.length := by rw [lL]; exact List.length_pos_of_mem m0
    walk_at "go"; refine opt_of (ix_lstD (ds := cs.map tupI) (i := 0) rfl (by rw [List.length_map]; exact cl)) ?_
    rw [c0]
    walk_at "go"; try dsimp only [List.set_cons_zero, List.set_cons_succ]
    walk_at "go"; refine And.intro (by decide) ?_
    walk_at "go"; refine opt_of (mul1_tupI (ns := [0]) (k := m) rfl m1 (by omega) (by decide) (by decide)) ?_
    rw [show (List.replicate m [(0 : Int)]).flatten = List.replicate m 0 by simp]
    walk_at "go"; refine opt_of (neq_same (k := 1) pln_tupI (by decide)) ?_
    walk_at "go"; try dsimp only [List.set_cons_zero, List.set_cons_succ]
    cases e60 : decide (((m : Nat) : Int) < 60) with
    | false =>
      walk_at "go"; exact nx _ ⟨_, _, _, _, _, _, _, _, n2 + 1, rfl, by omega⟩
    | true =>
      have e60 : m < 60 := by have := of_decide_eq_true e60; omega
      have oa' := okA_snoc oa (dsI0 w)
      have ob' := okA_snoc ob (dsI0 b)
      have la' : (w ++ [(0 : Int)]).length = m + 1 := by rw [List.length_append, la]; rfl
      have lb' : (b ++ [(0 : Int)]).length = m + 1 := by rw [List.length_append, lb]; rfl
      walk_at "go"; try dsimp only [List.set_cons_zero, List.set_cons_succ]
      walk_at "go"; refine And.intro (by decide) ?_
      walk_at "go"; refine opt_of (add_tup (a := w) (b := [0]) (by rw [la]; show m + 1 ≤ 100000; omega)) ?_
      walk_at "go"; refine And.intro rfl ⟨_, rfl, isSh_of oa' (by omega) (by omega), ?_⟩
      walk_at "go"; try dsimp only [List.set_cons_zero, List.set_cons_succ]
      walk_at "go"; refine And.intro (by decide) ?_
      walk_at "go"; refine opt_of (add_tup (a := b) (b := [0]) (by rw [lb]; show m + 1 ≤ 100000; omega)) ?_
      walk_at "go"; refine And.intro rfl ⟨_, rfl, isSh_of ob' (by omega) (by omega), ?_⟩
      walk_at "go"; refine opt_of (ltT_of w b) ?_
      walk_at "go"; refine opt_of (neq_bl (a := decide (sidxD ((w ++ [0]).map dI) < sidxD ((b ++ [0]).map dI))) (b := decide (w < b)) (by rw [decide_eq_decide, ← lex_snoc w b (by omega)]; exact sidx_lt_iff (by omega) oa' ob')) ?_
      walk_at "go"; exact nx _ ⟨_, _, _, _, _, _, _, _, n2 + 1, rfl, by omega⟩
end
end Lw
namespace Lw
open PySem PySem.Spec PyProof.Rows L2 Gd Dl
theorem exm_own {K : PySem.W.Frag} {S : Addr} (h1 : PySem.W.subIn K (.ref S) (.type "BaseException") = some true) (h2 : PySem.W.hasDictIn K S = true) (h3 : PySem.W.typeIn K (.ref S) = some (.type "type")) (h4 : PySem.W.subIn K (.ref S) (.ref S) = some true) :
    PySem.W.exmOne K (.ref S) (.ref S) = some true := PySem.W.exm_ref h1 h2 h3 h4
theorem all_mk {l : PySem.W.OpenLaw} {w : World} {K : PySem.W.Frag} {h : Heap} {mg : Str → Option Value} {fa f__law_stream f__law_draw f_is_whole f_is_place f_distances_at f_is_shape_up_to f_endings f_rises_after f_count_shapes f_shape_at f_shape_index f__law_same f__law_is_int f__law_long_shape f_law : Addr} (X : K.In h) (G : h.Ns mainGlobals mg) (hfa : mg "law" = some (.ref fa))
    {od__law_stream an__law_stream : Option Addr} {sl__law_stream : Array (Option Value)} {oc__law_stream kV__law_stream dc__law_stream pm__law_stream cd__law_stream ct__law_stream : Value}
    {od__law_draw an__law_draw : Option Addr} {sl__law_draw : Array (Option Value)} {oc__law_draw kV__law_draw dc__law_draw pm__law_draw cd__law_draw ct__law_draw : Value}
    {od_is_whole an_is_whole : Option Addr} {sl_is_whole : Array (Option Value)} {oc_is_whole kV_is_whole dc_is_whole pm_is_whole cd_is_whole ct_is_whole : Value}
    {od_is_place an_is_place : Option Addr} {sl_is_place : Array (Option Value)} {oc_is_place kV_is_place dc_is_place pm_is_place cd_is_place ct_is_place : Value}
    {od_distances_at an_distances_at : Option Addr} {sl_distances_at : Array (Option Value)} {oc_distances_at kV_distances_at dc_distances_at pm_distances_at cd_distances_at ct_distances_at : Value}
    {od_is_shape_up_to an_is_shape_up_to : Option Addr} {sl_is_shape_up_to : Array (Option Value)} {oc_is_shape_up_to kV_is_shape_up_to dc_is_shape_up_to pm_is_shape_up_to cd_is_shape_up_to ct_is_shape_up_to : Value}
    {od_endings an_endings : Option Addr} {sl_endings : Array (Option Value)} {oc_endings kV_endings dc_endings pm_endings cd_endings ct_endings : Value}
    {od_rises_after an_rises_after : Option Addr} {sl_rises_after : Array (Option Value)} {oc_rises_after kV_rises_after dc_rises_after pm_rises_after cd_rises_after ct_rises_after : Value}
    {od_count_shapes an_count_shapes : Option Addr} {sl_count_shapes : Array (Option Value)} {oc_count_shapes kV_count_shapes dc_count_shapes pm_count_shapes cd_count_shapes ct_count_shapes : Value}
    {od_shape_at an_shape_at : Option Addr} {sl_shape_at : Array (Option Value)} {oc_shape_at kV_shape_at dc_shape_at pm_shape_at cd_shape_at ct_shape_at : Value}
    {od_shape_index an_shape_index : Option Addr} {sl_shape_index : Array (Option Value)} {oc_shape_index kV_shape_index dc_shape_index pm_shape_index cd_shape_index ct_shape_index : Value}
    {od__law_same an__law_same : Option Addr} {sl__law_same : Array (Option Value)} {oc__law_same kV__law_same dc__law_same pm__law_same cd__law_same ct__law_same : Value}
    {od__law_is_int an__law_is_int : Option Addr} {sl__law_is_int : Array (Option Value)} {oc__law_is_int kV__law_is_int dc__law_is_int pm__law_is_int cd__law_is_int ct__law_is_int : Value}
    {od__law_long_shape an__law_long_shape : Option Addr} {sl__law_long_shape : Array (Option Value)} {oc__law_long_shape kV__law_long_shape dc__law_long_shape pm__law_long_shape cd__law_long_shape ct__law_long_shape : Value}
    {od_law an_law : Option Addr} {sl_law : Array (Option Value)} {oc_law kV_law dc_law pm_law cd_law ct_law : Value}
    {t_MAX_COUNT : Tok}
    {c_NoIndex i_NoIndex : Addr}
    {c_NotShape : Addr}
    {nm_NoIndex qn_NoIndex : Str} {N_NoIndex : Addr} {bs_NoIndex bm_NoIndex : List Value} {sn_NoIndex : List Str} {sub_NoIndex : List Value} {ab_NoIndex : Bool} {col_NoIndex : Option Bool} {dd_NoIndex : Option Addr} {m0_NoIndex m1_NoIndex m2_NoIndex m3_NoIndex m5_NoIndex : Option Value} {odI_NoIndex anI_NoIndex : Option Addr} {slI_NoIndex : Array (Option Value)} {ocI_NoIndex dcI_NoIndex pmI_NoIndex cdI_NoIndex ctI_NoIndex : Value} {p1_NoIndex p2_NoIndex q1_NoIndex q2_NoIndex q3_NoIndex q4_NoIndex : Pos}
    (ha__law_stream : PySem.W.nsIn K mainGlobals "_law_stream" = some (some (.ref f__law_stream)))
    (hl__law_stream : K.lookup f__law_stream = some ⟨oc__law_stream, od__law_stream, .func (PySem.W.fnOf "_law_stream" "_law_stream" (defArgs sStream) (defBody sStream) (defScope sStream) .none kV__law_stream dc__law_stream pm__law_stream an__law_stream cd__law_stream ct__law_stream), sl__law_stream⟩)
    (hc__law_stream : PySem.W.codeIn K cd__law_stream "_law_stream" = true)
    (hk__law_stream : PySem.W.keepIn K (.ref f__law_stream) = true)
    (ha__law_draw : PySem.W.nsIn K mainGlobals "_law_draw" = some (some (.ref f__law_draw)))
    (hl__law_draw : K.lookup f__law_draw = some ⟨oc__law_draw, od__law_draw, .func (PySem.W.fnOf "_law_draw" "_law_draw" (defArgs sDraw) (defBody sDraw) (defScope sDraw) .none kV__law_draw dc__law_draw pm__law_draw an__law_draw cd__law_draw ct__law_draw), sl__law_draw⟩)
    (hc__law_draw : PySem.W.codeIn K cd__law_draw "_law_draw" = true)
    (hk__law_draw : PySem.W.keepIn K (.ref f__law_draw) = true)
    (ha_is_whole : PySem.W.nsIn K mainGlobals "is_whole" = some (some (.ref f_is_whole)))
    (hl_is_whole : K.lookup f_is_whole = some ⟨oc_is_whole, od_is_whole, .func (PySem.W.fnOf "is_whole" "is_whole" (defArgs s_is_whole) (defBody s_is_whole) (defScope s_is_whole) .none kV_is_whole dc_is_whole pm_is_whole an_is_whole cd_is_whole ct_is_whole), sl_is_whole⟩)
    (hc_is_whole : PySem.W.codeIn K cd_is_whole "is_whole" = true)
    (hk_is_whole : PySem.W.keepIn K (.ref f_is_whole) = true)
    (ha_is_place : PySem.W.nsIn K mainGlobals "is_place" = some (some (.ref f_is_place)))
    (hl_is_place : K.lookup f_is_place = some ⟨oc_is_place, od_is_place, .func (PySem.W.fnOf "is_place" "is_place" (defArgs s_is_place) (defBody s_is_place) (defScope s_is_place) .none kV_is_place dc_is_place pm_is_place an_is_place cd_is_place ct_is_place), sl_is_place⟩)
    (hc_is_place : PySem.W.codeIn K cd_is_place "is_place" = true)
    (hk_is_place : PySem.W.keepIn K (.ref f_is_place) = true)
    (ha_distances_at : PySem.W.nsIn K mainGlobals "distances_at" = some (some (.ref f_distances_at)))
    (hl_distances_at : K.lookup f_distances_at = some ⟨oc_distances_at, od_distances_at, .func (PySem.W.fnOf "distances_at" "distances_at" (defArgs s_distances_at) (defBody s_distances_at) (defScope s_distances_at) .none kV_distances_at dc_distances_at pm_distances_at an_distances_at cd_distances_at ct_distances_at), sl_distances_at⟩)
    (hc_distances_at : PySem.W.codeIn K cd_distances_at "distances_at" = true)
    (hk_distances_at : PySem.W.keepIn K (.ref f_distances_at) = true)
    (ha_is_shape_up_to : PySem.W.nsIn K mainGlobals "is_shape_up_to" = some (some (.ref f_is_shape_up_to)))
    (hl_is_shape_up_to : K.lookup f_is_shape_up_to = some ⟨oc_is_shape_up_to, od_is_shape_up_to, .func (PySem.W.fnOf "is_shape_up_to" "is_shape_up_to" (defArgs s_is_shape_up_to) (defBody s_is_shape_up_to) (defScope s_is_shape_up_to) .none kV_is_shape_up_to dc_is_shape_up_to pm_is_shape_up_to an_is_shape_up_to cd_is_shape_up_to ct_is_shape_up_to), sl_is_shape_up_to⟩)
    (hc_is_shape_up_to : PySem.W.codeIn K cd_is_shape_up_to "is_shape_up_to" = true)
    (hk_is_shape_up_to : PySem.W.keepIn K (.ref f_is_shape_up_to) = true)
    (ha_endings : PySem.W.nsIn K mainGlobals "endings" = some (some (.ref f_endings)))
    (hl_endings : K.lookup f_endings = some ⟨oc_endings, od_endings, .func (PySem.W.fnOf "endings" "endings" (defArgs s_endings) (defBody s_endings) (defScope s_endings) .none kV_endings dc_endings pm_endings an_endings cd_endings ct_endings), sl_endings⟩)
    (hc_endings : PySem.W.codeIn K cd_endings "endings" = true)
    (hk_endings : PySem.W.keepIn K (.ref f_endings) = true)
    (ha_rises_after : PySem.W.nsIn K mainGlobals "rises_after" = some (some (.ref f_rises_after)))
    (hl_rises_after : K.lookup f_rises_after = some ⟨oc_rises_after, od_rises_after, .func (PySem.W.fnOf "rises_after" "rises_after" (defArgs s_rises_after) (defBody s_rises_after) (defScope s_rises_after) .none kV_rises_after dc_rises_after pm_rises_after an_rises_after cd_rises_after ct_rises_after), sl_rises_after⟩)
    (hc_rises_after : PySem.W.codeIn K cd_rises_after "rises_after" = true)
    (hk_rises_after : PySem.W.keepIn K (.ref f_rises_after) = true)
    (ha_count_shapes : PySem.W.nsIn K mainGlobals "count_shapes" = some (some (.ref f_count_shapes)))
    (hl_count_shapes : K.lookup f_count_shapes = some ⟨oc_count_shapes, od_count_shapes, .func (PySem.W.fnOf "count_shapes" "count_shapes" (defArgs s_count_shapes) (defBody s_count_shapes) (defScope s_count_shapes) .none kV_count_shapes dc_count_shapes pm_count_shapes an_count_shapes cd_count_shapes ct_count_shapes), sl_count_shapes⟩)
    (hc_count_shapes : PySem.W.codeIn K cd_count_shapes "count_shapes" = true)
    (hk_count_shapes : PySem.W.keepIn K (.ref f_count_shapes) = true)
    (ha_shape_at : PySem.W.nsIn K mainGlobals "shape_at" = some (some (.ref f_shape_at)))
    (hl_shape_at : K.lookup f_shape_at = some ⟨oc_shape_at, od_shape_at, .func (PySem.W.fnOf "shape_at" "shape_at" (defArgs s_shape_at) (defBody s_shape_at) (defScope s_shape_at) .none kV_shape_at dc_shape_at pm_shape_at an_shape_at cd_shape_at ct_shape_at), sl_shape_at⟩)
    (hc_shape_at : PySem.W.codeIn K cd_shape_at "shape_at" = true)
    (hk_shape_at : PySem.W.keepIn K (.ref f_shape_at) = true)
    (ha_shape_index : PySem.W.nsIn K mainGlobals "shape_index" = some (some (.ref f_shape_index)))
    (hl_shape_index : K.lookup f_shape_index = some ⟨oc_shape_index, od_shape_index, .func (PySem.W.fnOf "shape_index" "shape_index" (defArgs s_shape_index) (defBody s_shape_index) (defScope s_shape_index) .none kV_shape_index dc_shape_index pm_shape_index an_shape_index cd_shape_index ct_shape_index), sl_shape_index⟩)
    (hc_shape_index : PySem.W.codeIn K cd_shape_index "shape_index" = true)
    (hk_shape_index : PySem.W.keepIn K (.ref f_shape_index) = true)
    (ha__law_same : PySem.W.nsIn K mainGlobals "_law_same" = some (some (.ref f__law_same)))
    (hl__law_same : K.lookup f__law_same = some ⟨oc__law_same, od__law_same, .func (PySem.W.fnOf "_law_same" "_law_same" (defArgs s__law_same) (defBody s__law_same) (defScope s__law_same) .none kV__law_same dc__law_same pm__law_same an__law_same cd__law_same ct__law_same), sl__law_same⟩)
    (hc__law_same : PySem.W.codeIn K cd__law_same "_law_same" = true)
    (hk__law_same : PySem.W.keepIn K (.ref f__law_same) = true)
    (ha__law_is_int : PySem.W.nsIn K mainGlobals "_law_is_int" = some (some (.ref f__law_is_int)))
    (hl__law_is_int : K.lookup f__law_is_int = some ⟨oc__law_is_int, od__law_is_int, .func (PySem.W.fnOf "_law_is_int" "_law_is_int" (defArgs s__law_is_int) (defBody s__law_is_int) (defScope s__law_is_int) .none kV__law_is_int dc__law_is_int pm__law_is_int an__law_is_int cd__law_is_int ct__law_is_int), sl__law_is_int⟩)
    (hc__law_is_int : PySem.W.codeIn K cd__law_is_int "_law_is_int" = true)
    (hk__law_is_int : PySem.W.keepIn K (.ref f__law_is_int) = true)
    (ha__law_long_shape : PySem.W.nsIn K mainGlobals "_law_long_shape" = some (some (.ref f__law_long_shape)))
    (hl__law_long_shape : K.lookup f__law_long_shape = some ⟨oc__law_long_shape, od__law_long_shape, .func (PySem.W.fnOf "_law_long_shape" "_law_long_shape" (defArgs s__law_long_shape) (defBody s__law_long_shape) (defScope s__law_long_shape) .none kV__law_long_shape dc__law_long_shape pm__law_long_shape an__law_long_shape cd__law_long_shape ct__law_long_shape), sl__law_long_shape⟩)
    (hc__law_long_shape : PySem.W.codeIn K cd__law_long_shape "_law_long_shape" = true)
    (hk__law_long_shape : PySem.W.keepIn K (.ref f__law_long_shape) = true)
    (ha_law : PySem.W.nsIn K mainGlobals "law" = some (some (.ref f_law)))
    (hl_law : K.lookup f_law = some ⟨oc_law, od_law, .func (PySem.W.fnOf "law" "law" (defArgs s_law) (defBody s_law) (defScope s_law) .none kV_law dc_law pm_law an_law cd_law ct_law), sl_law⟩)
    (hc_law : PySem.W.codeIn K cd_law "law" = true)
    (hk_law : PySem.W.keepIn K (.ref f_law) = true)
    (z_abs : PySem.W.nsIn K mainGlobals "abs" = some none)
    (z_all : PySem.W.nsIn K mainGlobals "all" = some none)
    (z_bool : PySem.W.nsIn K mainGlobals "bool" = some none)
    (z_enumerate : PySem.W.nsIn K mainGlobals "enumerate" = some none)
    (z_int : PySem.W.nsIn K mainGlobals "int" = some none)
    (z_isinstance : PySem.W.nsIn K mainGlobals "isinstance" = some none)
    (z_len : PySem.W.nsIn K mainGlobals "len" = some none)
    (z_max : PySem.W.nsIn K mainGlobals "max" = some none)
    (z_min : PySem.W.nsIn K mainGlobals "min" = some none)
    (z_range : PySem.W.nsIn K mainGlobals "range" = some none)
    (z_repr : PySem.W.nsIn K mainGlobals "repr" = some none)
    (z_set : PySem.W.nsIn K mainGlobals "set" = some none)
    (z_sorted : PySem.W.nsIn K mainGlobals "sorted" = some none)
    (z_str : PySem.W.nsIn K mainGlobals "str" = some none)
    (z_sum : PySem.W.nsIn K mainGlobals "sum" = some none)
    (z_tuple : PySem.W.nsIn K mainGlobals "tuple" = some none)
    (z_zip : PySem.W.nsIn K mainGlobals "zip" = some none)
    (y_MAX_COUNT : PySem.W.nsIn K mainGlobals "MAX_COUNT" = some (some (.int G_MAX_COUNT t_MAX_COUNT)))
    (aC_NoIndex : PySem.W.nsIn K mainGlobals "NoIndex" = some (some (.ref c_NoIndex)))
    (xL_NoIndex : K.lookup c_NoIndex = some (excClassObj nm_NoIndex qn_NoIndex c_NoIndex N_NoIndex bs_NoIndex bm_NoIndex true sn_NoIndex sub_NoIndex ab_NoIndex col_NoIndex dd_NoIndex m0_NoIndex m1_NoIndex m2_NoIndex m3_NoIndex m5_NoIndex "LookupError.__new__"))
    (xT_NoIndex : PySem.W.excTail PySem.NoIndexX.exTl bm_NoIndex = true)
    (sa_NoIndex : PySem.W.findIn K (.ref c_NoIndex) "__setattr__" = some (some (.builtin "object.__setattr__")))
    (ga_NoIndex : PySem.W.findIn K (.ref c_NoIndex) "__getattribute__" = some (some (.builtin "BaseException.__getattribute__")))
    (gg_NoIndex : PySem.W.findIn K (.ref c_NoIndex) "__getattr__" = some none)
    (nb_NoIndex : PySem.W.findIn K (.ref c_NoIndex) "value" = some none)
    (aI_NoIndex : PySem.W.findIn K (.ref c_NoIndex) "__init__" = some (some (.ref i_NoIndex)))
    (tI_NoIndex : PySem.W.typeIn K (.ref i_NoIndex) = some (.type "function"))
    (lI_NoIndex : K.lookup i_NoIndex = some ⟨ocI_NoIndex, odI_NoIndex, .func (PySem.W.fnOf "__init__" "NoIndex.__init__" (PySem.NoIndexX.iA p1_NoIndex p2_NoIndex) (PySem.NoIndexX.iB q1_NoIndex q2_NoIndex q3_NoIndex q4_NoIndex) PySem.NoIndexX.iS .none .none dcI_NoIndex pmI_NoIndex anI_NoIndex cdI_NoIndex ctI_NoIndex), slI_NoIndex⟩)
    (cI_NoIndex : PySem.W.codeIn K cdI_NoIndex "NoIndex.__init__" = true)
    (kC_NoIndex : PySem.W.keepIn K (.ref c_NoIndex) = true)
    (eC_NoIndex : PySem.W.subIn K (.ref c_NoIndex) (.type "BaseException") = some true)
    (tC_NoIndex : PySem.W.typeIn K (.ref c_NoIndex) = some (.type "type"))
    (hC_NoIndex : PySem.W.hasDictIn K c_NoIndex = true)
    (sC_NoIndex : PySem.W.subIn K (.ref c_NoIndex) (.ref c_NoIndex) = some true)
    (aC_NotShape : PySem.W.nsIn K mainGlobals "NotShape" = some (some (.ref c_NotShape)))
    (xq_NotShape : PySem.W.excIn K c_NotShape [.type "ValueError", .type "Exception", .type "BaseException", .type "object"] "ValueError.__new__" = true)
    (kC_NotShape : PySem.W.keepIn K (.ref c_NotShape) = true)
    (eC_NotShape : PySem.W.subIn K (.ref c_NotShape) (.type "BaseException") = some true)
    (tC_NotShape : PySem.W.typeIn K (.ref c_NotShape) = some (.type "type"))
    (hC_NotShape : PySem.W.hasDictIn K c_NotShape = true)
    (sC_NotShape : PySem.W.subIn K (.ref c_NotShape) (.ref c_NotShape) = some true)
    (cg : PySem.W.specialIn K (.builtin "object.__class__") "__get__" = some (some (.builtin "getset_descriptor.__get__")))
    (ctk : PySem.W.takesIn K (.builtin "object.__class__") = some true)
    (iC_NoIndex : (PySem.W.clsIn K c_NoIndex).isSome = true)
    (ca_NoIndex : PySem.W.findIn K (.ref c_NoIndex) "__class__" = some (some (.builtin "object.__class__")))
    (co_NoIndex : PySem.W.mroIn K c_NoIndex (.type "object") = some true) :
    ∃ fd : FuncData, (∀ (s : Shared) (v : Value), BindsTo s fd ⟨[v], []⟩ [("_law_script", v)]) ∧ ∀ base : Heap, K.In base → base.Ns mainGlobals mg → FnG l.prog w K mg base CX0 4 fa fd ["_law_script"] (spLaw K) := by
  have e := hfa.symm.trans (PySem.W.mg_of X G ha_law)
  cases e
  have F__law_stream := fun_mk (st := sStream) hl__law_stream hc__law_stream hk__law_stream
  have b__law_stream := F__law_stream.binds (ps := ["_law_script"]) fun _ _ _ _ _ _ us hl => match us, hl with | [_], _ => rfl
  have F__law_draw := fun_mk (st := sDraw) hl__law_draw hc__law_draw hk__law_draw
  have b__law_draw := F__law_draw.binds (ps := ["_law_stream_here", "_law_many"]) fun _ _ _ _ _ _ us hl => match us, hl with | [_, _], _ => rfl
  have F_is_whole := fun_mk (st := s_is_whole) hl_is_whole hc_is_whole hk_is_whole
  have b_is_whole := F_is_whole.binds (ps := ["value"]) fun _ _ _ _ _ _ us hl => match us, hl with | [_], _ => rfl
  have F_is_place := fun_mk (st := s_is_place) hl_is_place hc_is_place hk_is_place
  have b_is_place := F_is_place.binds (ps := ["many", "value"]) fun _ _ _ _ _ _ us hl => match us, hl with | [_, _], _ => rfl
  have F_distances_at := fun_mk (st := s_distances_at) hl_distances_at hc_distances_at hk_distances_at
  have b_distances_at := F_distances_at.binds (ps := ["shape", "place"]) fun _ _ _ _ _ _ us hl => match us, hl with | [_, _], _ => rfl
  have F_is_shape_up_to := fun_mk (st := s_is_shape_up_to) hl_is_shape_up_to hc_is_shape_up_to hk_is_shape_up_to
  have b_is_shape_up_to := F_is_shape_up_to.binds (ps := ["most", "value"]) fun _ _ _ _ _ _ us hl => match us, hl with | [_, _], _ => rfl
  have F_endings := fun_mk (st := s_endings) hl_endings hc_endings hk_endings
  have b_endings := F_endings.binds (ps := ["n"]) fun _ _ _ _ _ _ us hl => match us, hl with | [_], _ => rfl
  have F_rises_after := fun_mk (st := s_rises_after) hl_rises_after hc_rises_after hk_rises_after
  have b_rises_after := F_rises_after.binds (ps := ["distances", "chosen"]) fun _ _ _ _ _ _ us hl => match us, hl with | [_, _], _ => rfl
  have F_count_shapes := fun_mk (st := s_count_shapes) hl_count_shapes hc_count_shapes hk_count_shapes
  have b_count_shapes := F_count_shapes.binds (ps := ["n"]) fun _ _ _ _ _ _ us hl => match us, hl with | [_], _ => rfl
  have F_shape_at := fun_mk (st := s_shape_at) hl_shape_at hc_shape_at hk_shape_at
  have b_shape_at := F_shape_at.binds (ps := ["n", "index"]) fun _ _ _ _ _ _ us hl => match us, hl with | [_, _], _ => rfl
  have F_shape_index := fun_mk (st := s_shape_index) hl_shape_index hc_shape_index hk_shape_index
  have b_shape_index := F_shape_index.binds (ps := ["value"]) fun _ _ _ _ _ _ us hl => match us, hl with | [_], _ => rfl
  have F__law_same := fun_mk (st := s__law_same) hl__law_same hc__law_same hk__law_same
  have b__law_same := F__law_same.binds (ps := ["_law_found", "_law_expected"]) fun _ _ _ _ _ _ us hl => match us, hl with | [_, _], _ => rfl
  have F__law_is_int := fun_mk (st := s__law_is_int) hl__law_is_int hc__law_is_int hk__law_is_int
  have b__law_is_int := F__law_is_int.binds (ps := ["_law_value", "_law_low", "_law_high"]) fun _ _ _ _ _ _ us hl => match us, hl with | [_, _, _], _ => rfl
  have F__law_long_shape := fun_mk (st := s__law_long_shape) hl__law_long_shape hc__law_long_shape hk__law_long_shape
  have b__law_long_shape := F__law_long_shape.binds (ps := ["_law_stream_here", "_law_many"]) fun _ _ _ _ _ _ us hl => match us, hl with | [_, _], _ => rfl
  have F_law := fun_mk (st := s_law) hl_law hc_law hk_law
  have b_law := F_law.binds (ps := ["_law_script"]) fun _ _ _ _ _ _ us hl => match us, hl with | [_], _ => rfl
  have gm__law_stream := PySem.W.mg_of X G ha__law_stream
  have gm__law_draw := PySem.W.mg_of X G ha__law_draw
  have gm_is_whole := PySem.W.mg_of X G ha_is_whole
  have gm_is_place := PySem.W.mg_of X G ha_is_place
  have gm_distances_at := PySem.W.mg_of X G ha_distances_at
  have gm_is_shape_up_to := PySem.W.mg_of X G ha_is_shape_up_to
  have gm_endings := PySem.W.mg_of X G ha_endings
  have gm_rises_after := PySem.W.mg_of X G ha_rises_after
  have gm_count_shapes := PySem.W.mg_of X G ha_count_shapes
  have gm_shape_at := PySem.W.mg_of X G ha_shape_at
  have gm_shape_index := PySem.W.mg_of X G ha_shape_index
  have gm__law_same := PySem.W.mg_of X G ha__law_same
  have gm__law_is_int := PySem.W.mg_of X G ha__law_is_int
  have gm__law_long_shape := PySem.W.mg_of X G ha__law_long_shape
  have gm_law := PySem.W.mg_of X G ha_law
  have m_abs := PySem.W.mg_none_of X G z_abs
  have m_all := PySem.W.mg_none_of X G z_all
  have m_bool := PySem.W.mg_none_of X G z_bool
  have m_enumerate := PySem.W.mg_none_of X G z_enumerate
  have m_int := PySem.W.mg_none_of X G z_int
  have m_isinstance := PySem.W.mg_none_of X G z_isinstance
  have m_len := PySem.W.mg_none_of X G z_len
  have m_max := PySem.W.mg_none_of X G z_max
  have m_min := PySem.W.mg_none_of X G z_min
  have m_range := PySem.W.mg_none_of X G z_range
  have m_repr := PySem.W.mg_none_of X G z_repr
  have m_set := PySem.W.mg_none_of X G z_set
  have m_sorted := PySem.W.mg_none_of X G z_sorted
  have m_str := PySem.W.mg_none_of X G z_str
  have m_sum := PySem.W.mg_none_of X G z_sum
  have m_tuple := PySem.W.mg_none_of X G z_tuple
  have m_zip := PySem.W.mg_none_of X G z_zip
  have g_MAX_COUNT := PySem.W.mg_of X G y_MAX_COUNT
  have T_NoIndex : PySem.NoIndexX.NoIndexTxt K mg c_NoIndex i_NoIndex :=
    { gC := PySem.W.mg_of X G aC_NoIndex, cls := ⟨nm_NoIndex, qn_NoIndex, N_NoIndex, bs_NoIndex, _, sn_NoIndex, sub_NoIndex, ab_NoIndex, col_NoIndex, dd_NoIndex, m0_NoIndex, m1_NoIndex, m2_NoIndex, m3_NoIndex, m5_NoIndex, xL_NoIndex, xT_NoIndex⟩, sa := sa_NoIndex, ga := ga_NoIndex, gg := gg_NoIndex, noN := nb_NoIndex, iC := aI_NoIndex, tC := tI_NoIndex, kC := kC_NoIndex, exC := eC_NoIndex, tyC := tC_NoIndex, hdC := hC_NoIndex, te := exm_own eC_NoIndex hC_NoIndex tC_NoIndex sC_NoIndex,
      fn := ⟨_, _, _, _, _, _, _, _, _, _, _, _, _, _, lI_NoIndex, cI_NoIndex⟩ }
  have Q_NotShape : Zero K mg "NotShape" c_NotShape := ⟨PySem.F.excBase_ValueError, xq_NotShape, PySem.W.mg_of X G aC_NotShape, kC_NotShape, fun X' hK => raises_own (by rw [hK]; exact eC_NotShape) (by rw [hK]; exact tC_NotShape), exm_own eC_NotShape hC_NotShape tC_NotShape sC_NotShape⟩
  have XD_NoIndex : ExcD K c_NoIndex := ⟨iC_NoIndex, ga_NoIndex, gg_NoIndex, eC_NoIndex, ca_NoIndex, cg, ctk, co_NoIndex⟩
  refine ⟨PySem.W.fnOf "law" "law" (defArgs s_law) (defBody s_law) (defScope s_law) .none kV_law dc_law pm_law an_law cd_law ct_law, fun s v => .of_eq rfl, fun base _ _ => ?_⟩
  have S0 : FnOk l.prog w K mg base CX0 1 f__law_stream _ ["_law_script"] (spStream K) := ok_stream (k := 0) F__law_stream m_len m_abs
  have D0 : FnOk l.prog w K mg base CX0 1 f__law_draw _ ["_law_stream_here", "_law_many"] spDraw := ok_draw (k := 0) F__law_draw m_len
  have c__law_draw : Cd l.prog w K mg base 1 "_law_draw" f__law_draw _ ["_law_stream_here", "_law_many"] C__law_draw := ⟨D0.imp draw_sp, hk__law_draw, b__law_draw, gm__law_draw⟩
  have c_is_whole : Cd l.prog w K mg base 1 "is_whole" f_is_whole _ ["value"] C_is_whole := ⟨ok_is_whole (k := 0) F_is_whole m_bool m_int m_isinstance, hk_is_whole, b_is_whole, gm_is_whole⟩
  have c_is_place : Cd l.prog w K mg base 2 "is_place" f_is_place _ ["many", "value"] C_is_place := ⟨ok_is_place (k := 1) F_is_place (c_is_whole.mono (by decide)), hk_is_place, b_is_place, gm_is_place⟩
  have c_distances_at : Cd l.prog w K mg base 1 "distances_at" f_distances_at _ ["shape", "place"] C_distances_at := ⟨ok_distances_at (k := 0) F_distances_at , hk_distances_at, b_distances_at, gm_distances_at⟩
  have c_distances_atN : CdN l.prog w K mg base 1 "distances_at" f_distances_at _ ["shape", "place"] C_distances_atN := ⟨ok_distances_atN (k := 0) F_distances_at, hk_distances_at, b_distances_at, gm_distances_at⟩
  have c_is_shape_up_to : Cd l.prog w K mg base 2 "is_shape_up_to" f_is_shape_up_to _ ["most", "value"] C_is_shape_up_to := ⟨ok_is_shape_up_to (k := 1) F_is_shape_up_to (c_distances_at.mono (by decide)) (c_is_whole.mono (by decide)) m_enumerate m_isinstance m_len m_tuple, hk_is_shape_up_to, b_is_shape_up_to, gm_is_shape_up_to⟩
  have c_endings : Cd l.prog w K mg base 1 "endings" f_endings _ ["n"] C_endings := ⟨ok_endings (k := 0) F_endings m_range, hk_endings, b_endings, gm_endings⟩
  have c_rises_after : Cd l.prog w K mg base 1 "rises_after" f_rises_after _ ["distances", "chosen"] C_rises_after := ⟨ok_rises_after (k := 0) F_rises_after m_len, hk_rises_after, b_rises_after, gm_rises_after⟩
  have c_count_shapes : Cd l.prog w K mg base 2 "count_shapes" f_count_shapes _ ["n"] C_count_shapes := ⟨ok_count_shapes (k := 1) F_count_shapes (c_endings.mono (by decide)), hk_count_shapes, b_count_shapes, gm_count_shapes⟩
  have c_shape_at : CdX l.prog w K mg base 3 "shape_at" f_shape_at _ ["n", "index"] (C_shape_at c_NoIndex) := ⟨ok_shape_at (k := 2) F_shape_at (c_rises_after.mono (by decide)) (c_distances_atN.mono (by decide)) (c_endings.mono (by decide)) (c_is_place.mono (by decide)) (c_count_shapes.mono (by decide)) m_range m_tuple T_NoIndex, hk_shape_at, b_shape_at, gm_shape_at⟩
  have c_shape_index : CdX l.prog w K mg base 3 "shape_index" f_shape_index _ ["value"] (C_shape_index c_NotShape) := ⟨ok_shape_index (k := 2) F_shape_index (c_rises_after.mono (by decide)) (c_distances_at.mono (by decide)) (c_endings.mono (by decide)) (c_is_shape_up_to.mono (by decide)) m_enumerate m_len m_range m_sum g_MAX_COUNT Q_NotShape, hk_shape_index, b_shape_index, gm_shape_index⟩
  have c__law_same : CdG l.prog w K mg base 3 "_law_same" f__law_same _ ["_law_found", "_law_expected"] (C__law_same 2) := ⟨rec__law_same (k := 0) F__law_same m_all m_bool m_int m_isinstance m_len m_repr m_str m_tuple m_zip hk__law_same b__law_same gm__law_same 2, hk__law_same, b__law_same, gm__law_same⟩
  have c__law_is_int : Cd l.prog w K mg base 1 "_law_is_int" f__law_is_int _ ["_law_value", "_law_low", "_law_high"] C__law_is_int := ⟨ok__law_is_int (k := 0) F__law_is_int m_bool m_int m_isinstance, hk__law_is_int, b__law_is_int, gm__law_is_int⟩
  have c__law_long_shape : Cd l.prog w K mg base 2 "_law_long_shape" f__law_long_shape _ ["_law_stream_here", "_law_many"] C__law_long_shape := ⟨ok__law_long_shape (k := 1) F__law_long_shape (c__law_draw.mono (by decide)) m_len m_min m_range m_tuple, hk__law_long_shape, b__law_long_shape, gm__law_long_shape⟩
  exact ok_law (k := 3) F_law ⟨S0.mono (by decide), hk__law_stream, b__law_stream, gm__law_stream⟩ (c_shape_index.mono (by decide)) (c_shape_at.mono (by decide)) (c__law_draw.mono (by decide)) (c__law_same.mono (by decide)) (c__law_is_int.mono (by decide)) (c_count_shapes.mono (by decide)) (c__law_long_shape.mono (by decide)) m_len m_max m_min m_range m_set m_sorted
end Lw
open PySem PySem.W PyProof.Rows
set_option maxHeartbeats 0 in
theorem PySem.Challenge.cw_leastplaces_k36_whole_numbers_there_and_holds : PySem.Challenge.rw_leastplaces_k36_whole_numbers_there_and.Holds := by
  w_on; o_law; k_head; (case hw => w_witness2)
  k_fill
  refine Gd.walk_G (l := PySem.Challenge.rw_leastplaces_k36_whole_numbers_there_and) (n := 63) (k := 4) (x := "_law_script") (sp := Lw.spLaw) rfl (by decide) rfl ⟨rfl, by decide, by decide⟩ (fun w h Y => PySem.W.kIn_of Y) ?F (fun _ _ a ns hl _ hS => ⟨a, ns, rfl, hS, hl, fun _ => rfl⟩)
  case F =>
    intro w mg fa h KX G hmg
    refine' Lw.all_mk KX G hmg ?ha__law_stream ?hl__law_stream ?hc__law_stream ?hk__law_stream ?ha__law_draw ?hl__law_draw ?hc__law_draw ?hk__law_draw ?ha_is_whole ?hl_is_whole ?hc_is_whole ?hk_is_whole ?ha_is_place ?hl_is_place ?hc_is_place ?hk_is_place ?ha_distances_at ?hl_distances_at ?hc_distances_at ?hk_distances_at ?ha_is_shape_up_to ?hl_is_shape_up_to ?hc_is_shape_up_to ?hk_is_shape_up_to ?ha_endings ?hl_endings ?hc_endings ?hk_endings ?ha_rises_after ?hl_rises_after ?hc_rises_after ?hk_rises_after ?ha_count_shapes ?hl_count_shapes ?hc_count_shapes ?hk_count_shapes ?ha_shape_at ?hl_shape_at ?hc_shape_at ?hk_shape_at ?ha_shape_index ?hl_shape_index ?hc_shape_index ?hk_shape_index ?ha__law_same ?hl__law_same ?hc__law_same ?hk__law_same ?ha__law_is_int ?hl__law_is_int ?hc__law_is_int ?hk__law_is_int ?ha__law_long_shape ?hl__law_long_shape ?hc__law_long_shape ?hk__law_long_shape ?ha_law ?hl_law ?hc_law ?hk_law ?z_abs ?z_all ?z_bool ?z_enumerate ?z_int ?z_isinstance ?z_len ?z_max ?z_min ?z_range ?z_repr ?z_set ?z_sorted ?z_str ?z_sum ?z_tuple ?z_zip ?y_MAX_COUNT ?aC_NoIndex ?xL_NoIndex ?xT_NoIndex ?sa_NoIndex ?ga_NoIndex ?gg_NoIndex ?nb_NoIndex ?aI_NoIndex ?tI_NoIndex ?lI_NoIndex ?cI_NoIndex ?kC_NoIndex ?eC_NoIndex ?tC_NoIndex ?hC_NoIndex ?sC_NoIndex ?aC_NotShape ?xq_NotShape ?kC_NotShape ?eC_NotShape ?tC_NotShape ?hC_NotShape ?sC_NotShape ?cg ?ctk ?iC_NoIndex ?ca_NoIndex ?co_NoIndex
    (case ha__law_stream => first | k_is | kit_is | kernel_rfl | rfl); (case hl__law_stream => first | k_is | kit_is | kernel_rfl | rfl); (case hc__law_stream => first | k_is | kit_is | kernel_rfl | rfl); (case hk__law_stream => first | k_is | kit_is | kernel_rfl | rfl); (case ha__law_draw => first | k_is | kit_is | kernel_rfl | rfl); (case hl__law_draw => first | k_is | kit_is | kernel_rfl | rfl); (case hc__law_draw => first | k_is | kit_is | kernel_rfl | rfl); (case hk__law_draw => first | k_is | kit_is | kernel_rfl | rfl); (case ha_is_whole => first | k_is | kit_is | kernel_rfl | rfl); (case hl_is_whole => first | k_is | kit_is | kernel_rfl | rfl); (case hc_is_whole => first | k_is | kit_is | kernel_rfl | rfl); (case hk_is_whole => first | k_is | kit_is | kernel_rfl | rfl); (case ha_is_place => first | k_is | kit_is | kernel_rfl | rfl); (case hl_is_place => first | k_is | kit_is | kernel_rfl | rfl); (case hc_is_place => first | k_is | kit_is | kernel_rfl | rfl); (case hk_is_place => first | k_is | kit_is | kernel_rfl | rfl); (case ha_distances_at => first | k_is | kit_is | kernel_rfl | rfl); (case hl_distances_at => first | k_is | kit_is | kernel_rfl | rfl); (case hc_distances_at => first | k_is | kit_is | kernel_rfl | rfl); (case hk_distances_at => first | k_is | kit_is | kernel_rfl | rfl); (case ha_is_shape_up_to => first | k_is | kit_is | kernel_rfl | rfl); (case hl_is_shape_up_to => first | k_is | kit_is | kernel_rfl | rfl); (case hc_is_shape_up_to => first | k_is | kit_is | kernel_rfl | rfl); (case hk_is_shape_up_to => first | k_is | kit_is | kernel_rfl | rfl); (case ha_endings => first | k_is | kit_is | kernel_rfl | rfl); (case hl_endings => first | k_is | kit_is | kernel_rfl | rfl); (case hc_endings => first | k_is | kit_is | kernel_rfl | rfl); (case hk_endings => first | k_is | kit_is | kernel_rfl | rfl); (case ha_rises_after => first | k_is | kit_is | kernel_rfl | rfl); (case hl_rises_after => first | k_is | kit_is | kernel_rfl | rfl); (case hc_rises_after => first | k_is | kit_is | kernel_rfl | rfl); (case hk_rises_after => first | k_is | kit_is | kernel_rfl | rfl); (case ha_count_shapes => first | k_is | kit_is | kernel_rfl | rfl); (case hl_count_shapes => first | k_is | kit_is | kernel_rfl | rfl); (case hc_count_shapes => first | k_is | kit_is | kernel_rfl | rfl); (case hk_count_shapes => first | k_is | kit_is | kernel_rfl | rfl); (case ha_shape_at => first | k_is | kit_is | kernel_rfl | rfl); (case hl_shape_at => first | k_is | kit_is | kernel_rfl | rfl); (case hc_shape_at => first | k_is | kit_is | kernel_rfl | rfl); (case hk_shape_at => first | k_is | kit_is | kernel_rfl | rfl); (case ha_shape_index => first | k_is | kit_is | kernel_rfl | rfl); (case hl_shape_index => first | k_is | kit_is | kernel_rfl | rfl); (case hc_shape_index => first | k_is | kit_is | kernel_rfl | rfl); (case hk_shape_index => first | k_is | kit_is | kernel_rfl | rfl); (case ha__law_same => first | k_is | kit_is | kernel_rfl | rfl); (case hl__law_same => first | k_is | kit_is | kernel_rfl | rfl); (case hc__law_same => first | k_is | kit_is | kernel_rfl | rfl); (case hk__law_same => first | k_is | kit_is | kernel_rfl | rfl); (case ha__law_is_int => first | k_is | kit_is | kernel_rfl | rfl); (case hl__law_is_int => first | k_is | kit_is | kernel_rfl | rfl); (case hc__law_is_int => first | k_is | kit_is | kernel_rfl | rfl); (case hk__law_is_int => first | k_is | kit_is | kernel_rfl | rfl); (case ha__law_long_shape => first | k_is | kit_is | kernel_rfl | rfl); (case hl__law_long_shape => first | k_is | kit_is | kernel_rfl | rfl); (case hc__law_long_shape => first | k_is | kit_is | kernel_rfl | rfl); (case hk__law_long_shape => first | k_is | kit_is | kernel_rfl | rfl); (case ha_law => first | k_is | kit_is | kernel_rfl | rfl); (case hl_law => first | k_is | kit_is | kernel_rfl | rfl); (case hc_law => first | k_is | kit_is | kernel_rfl | rfl); (case hk_law => first | k_is | kit_is | kernel_rfl | rfl); (case z_abs => first | k_is | kit_is | kernel_rfl | rfl); (case z_all => first | k_is | kit_is | kernel_rfl | rfl); (case z_bool => first | k_is | kit_is | kernel_rfl | rfl); (case z_enumerate => first | k_is | kit_is | kernel_rfl | rfl); (case z_int => first | k_is | kit_is | kernel_rfl | rfl); (case z_isinstance => first | k_is | kit_is | kernel_rfl | rfl); (case z_len => first | k_is | kit_is | kernel_rfl | rfl); (case z_max => first | k_is | kit_is | kernel_rfl | rfl); (case z_min => first | k_is | kit_is | kernel_rfl | rfl); (case z_range => first | k_is | kit_is | kernel_rfl | rfl); (case z_repr => first | k_is | kit_is | kernel_rfl | rfl); (case z_set => first | k_is | kit_is | kernel_rfl | rfl); (case z_sorted => first | k_is | kit_is | kernel_rfl | rfl); (case z_str => first | k_is | kit_is | kernel_rfl | rfl); (case z_sum => first | k_is | kit_is | kernel_rfl | rfl); (case z_tuple => first | k_is | kit_is | kernel_rfl | rfl); (case z_zip => first | k_is | kit_is | kernel_rfl | rfl); (case y_MAX_COUNT => first | k_is | kit_is | kernel_rfl | rfl); (case aC_NoIndex => first | k_is | kit_is | kernel_rfl | rfl); (case xL_NoIndex => first | k_is | kit_is | kernel_rfl | rfl); (case xT_NoIndex => first | k_is | kit_is | kernel_rfl | rfl); (case sa_NoIndex => first | k_is | kit_is | kernel_rfl | rfl); (case ga_NoIndex => first | k_is | kit_is | kernel_rfl | rfl); (case gg_NoIndex => first | k_is | kit_is | kernel_rfl | rfl); (case nb_NoIndex => first | k_is | kit_is | kernel_rfl | rfl); (case aI_NoIndex => first | k_is | kit_is | kernel_rfl | rfl); (case tI_NoIndex => first | k_is | kit_is | kernel_rfl | rfl); (case lI_NoIndex => first | k_is | kit_is | kernel_rfl | rfl); (case cI_NoIndex => first | k_is | kit_is | kernel_rfl | rfl); (case kC_NoIndex => first | k_is | kit_is | kernel_rfl | rfl); (case eC_NoIndex => first | k_is | kit_is | kernel_rfl | rfl); (case tC_NoIndex => first | k_is | kit_is | kernel_rfl | rfl); (case hC_NoIndex => first | k_is | kit_is | kernel_rfl | rfl); (case sC_NoIndex => first | k_is | kit_is | kernel_rfl | rfl); (case aC_NotShape => first | k_is | kit_is | kernel_rfl | rfl); (case xq_NotShape => first | k_is | kit_is | kernel_rfl | rfl); (case kC_NotShape => first | k_is | kit_is | kernel_rfl | rfl); (case eC_NotShape => first | k_is | kit_is | kernel_rfl | rfl); (case tC_NotShape => first | k_is | kit_is | kernel_rfl | rfl); (case hC_NotShape => first | k_is | kit_is | kernel_rfl | rfl); (case sC_NotShape => first | k_is | kit_is | kernel_rfl | rfl); (case cg => first | k_is | kit_is | kernel_rfl | rfl); (case ctk => first | k_is | kit_is | kernel_rfl | rfl); (case iC_NoIndex => first | k_is | kit_is | kernel_rfl | rfl); (case ca_NoIndex => first | k_is | kit_is | kernel_rfl | rfl); (case co_NoIndex => first | k_is | kit_is | kernel_rfl | rfl)
