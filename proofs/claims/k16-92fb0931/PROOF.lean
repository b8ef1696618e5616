import PyProof.Rows.All
import Wide.All
import OpenK.AllK
import Wide.FinOn
import PyProof.EqAt
import PyProof.EqKinds
import PyProof.TupleCall
import PyProof.ReprRoads
import HandS.ForMost
import HandS.IsInst
import KE.KEqSeq
import HandS.Style
import HandS.TupAny
import HandS.TupMul
import HandS.SortInts
import KE.KRevSl
import KE.GoesMore
import KE.GoesEnum
import HandS.TupLe
import HandS.Conv
import KE.KExcInit
import HandS.ForExc
import HandS.ExcIs
import HandS.CallLocal
import HandS.SetFor
import HandS.Strs
import HandS.WordsExc
import HandS.ExcOwn
import HandS.Zip
import HandS.Rev
import PyProof.NeKinds
import PyProof.AutoSeq1
import PySem.Challenge.RW_leastplaces_k16_whole_trees_there_and_ba
set_option Elab.async false
set_option linter.all false
set_option maxRecDepth 100000
set_option maxHeartbeats 4000000
/-! Defs that may ask repr: what runs around them holds no repr under way. -/
namespace Gd
open PySem PySem.Spec PyProof.Rows L2

theorem guards_deeper {A : Around} (env : Env) (h : A.guards = some []) : (A.deeper env).guards = some [] := by
  first | exact h | (simpa [Around.deeper] using h)

/-- as FnOk, asked only where no repr is under way -/
structure FnG (P : Program) (w : World) (K : PySem.W.Frag) (mg : Str → Option Value) (base : Heap) (CX : CXT) (k : Nat) (f : Addr) (fd : FuncData) (ps : List Str) (sp : Sp) : Prop where
  len : ∀ vs H Q E, sp vs H Q E → vs.length = ps.length
  run : ∀ (A : Around) (fr : List Env) (s : Shared) (H : Hp) (ar : Args) (us : List Value) (vs : List V) (Q : VK) (E : XK), Room k A → A.guards = some [] → Env0 P w K mg base A fr s H → BindsTo s fd ar (ps.zip us) →
    Vals vs us → sp vs H Q E → codeAny (model P w) A (.call (.ref f) ar) (CR CX fr P w H s Q E) s

section
variable {P : Program} {w : World} {K : PySem.W.Frag} {mg : Str → Option Value} {base : Heap}
theorem fnG_of {x qual : Str} {st : Stmt} {f : Addr} {fd : FuncData} {N ps : List Str} {k : Nat} {sp : Sp} (F : Fun K x qual st f fd) (S : FnScope N ps (defScope st)) (len : ∀ vs H Q E, sp vs H Q E → vs.length = ps.length)
    (body : ∀ (cdv : Value) (A : Around) (fr : List Env) (s : Shared) (H : Hp) (vs : List V) (Q : VK) (E : XK), Room k (A.deeper (envOfC qual (defScope st) s.heap.objs.size f cdv)) →
      (A.deeper (envOfC qual (defScope st) s.heap.objs.size f cdv)).guards = some [] → sp vs H Q E →
      ∃ t, PSs (cxOf CX0 P w K mg base N qual (defScope st) f cdv A fr s H E).nox (defBody st) t ∧ t { nx := fun _ H' => Q .non H', rt := Q } (start N vs) H) : FnG P w K mg base CX0 (k + 1) f fd ps sp := by
  obtain ⟨oc, od, kV, doc, pm, an, cdv, ct, osl, rfl, lk, hcd⟩ := F.ex
  refine ⟨len, ?_⟩
  intro A fr s H ar us vs Q E room gd env bd rel want
  have inK : K.In s.heap := env.mod.kin.keeps (fun b o z => (env.bs b o z).1)
  have nolim : s.heap.NoLimit := env.mod.nolimit.keeps (fun b o z => (env.bs b o z).1)
  refine codeAny_call_function room.depth (inK _ _ lk) rfl S.co S.gen rfl
    (PySem.W.codeRec_of inK hcd) (bd _ _ _ _ ?_)
  refine wpAny_newFunctionEnv_cells S.kind ?kinds ?rest
  case kinds =>
    rintro ⟨n, v⟩ hm
    have par := S.par n (List.of_mem_zip hm).1
    rcases par with z | z
    · exact Or.inl z
    · exact Or.inr (And.intro z (PySem.W.cellsFrom_some _ _ _ (.inl z)))
  case rest =>
    intro env1 e1 s1 inCall
    subst e1
    refine ⟨nolim.keeps inCall.toInCall.keep, codeAny_func ?_⟩
    obtain ⟨t, tree, reading⟩ := body cdv A fr s H vs Q E (room.deeper _) (guards_deeper _ gd) want
    have I0 : Inv (cxOf CX0 P w K mg base N qual (defScope st) f cdv A fr s H E) [] (start N vs) H s1 := inv_start S room.hd env (len _ _ _ _ want) rel inCall
    have ran := tree.nox.run [] s1 (start N vs) H _ I0 reading
    refine wpAny_mono ran ?good (fun _ _ z => z)
    case good =>
      intro flow s2 end2
      cases flow with
      | brk => obtain ⟨_, _, _, no⟩ := end2; exact no.elim
      | cont => obtain ⟨_, _, _, no⟩ := end2; exact no.elim
      | next =>
        obtain ⟨σ2, H2, I2, q2⟩ := end2
        exact (⟨.non, H2, I2.os, I2.bare, I2.base, I2.hok, rfl, q2⟩ : CE fr P w H s Q Value.none s2)
      | ret u =>
        obtain ⟨v, σ2, H2, I2, rv, q2⟩ := end2
        exact (⟨v, H2, I2.os, I2.bare, I2.base, I2.hok, rv, q2⟩ : CE fr P w H s Q u s2)

/-- the law's own call -/
theorem law_runG {mb : Str → Option Value} {CX : CXT} {k : Nat} {fa a : Addr} {fd : FuncData} {x : Str} {sp : Sp} {s₁ : Shared} {vs : List Value} {ns : List Int}
    (inK : K.In s₁.heap) (glob : s₁.heap.Ns mainGlobals mg) (blt : s₁.heap.Ns builtinsNs mb) (plain : ∀ y : Str, y ≠ "__name__" → mb y = bootBuiltins y) (nolim : s₁.heap.NoLimit) (nogen : s₁.gens = #[])
    (obj : s₁.heap.get? a = some { cls := .type "list", data := .seq vs.toArray }) (isInts : IntsAre vs ns) (short : ns.length ≤ sizeLine) (room : Room k callerA)
    (F : ∀ b : Heap, K.In b → b.Ns mainGlobals mg → FnG P w K mg b CX k fa fd [x] sp) (bd : ∀ (s : Shared) (u : Value), BindsTo s fd ⟨[u], []⟩ [(x, u)])
    (want : ∀ H : Hp, Only H → SqL K H a (ns.map V.int) → sp [.ref a] H (fun v _ => v = .bl true) fun _ _ _ => False)
    (noX : ∀ H e s', CX [] H s₁ (fun _ _ _ => False) e s' → False) :
    codeAny (model P w) callerA (.call (.ref fa) ⟨[.ref a], []⟩) (fun r s' => r = .ok (.ret (.bool true)) ∧ OldK s₁.heap s'.heap ∧ s'.os = s₁.os ∧ AllBare s'.gens) s₁ := by
  have rel : Vals (ns.map V.int) vs := vals_ints isInts
  have sizes : vs.length = ns.length := isInts.length
  -- the abstract heap: the script alone, unless the module's own part holds it
  obtain ⟨H, only, script, held, alone, apart⟩ : ∃ H : Hp, Only H ∧ SqL K H a (ns.map V.int) ∧ HOk P w H s₁.heap ∧ (∀ b, H b ≠ none → b = a) ∧ (∀ o, K.lookup a = some o → H a = none) := by
    cases own : K.lookup a with
    | some o =>
      have same := (inK a o own).symm.trans obj
      cases same
      refine ⟨fun _ => none, fun _ => Or.inl rfl, Or.inr ?_, ?_, fun b z => (z rfl).elim, fun _ _ => rfl⟩
      · exact ⟨_, vs.toArray, _, own, rfl, rfl, rfl, by rw [List.size_toArray, sizes]; exact short, by simpa using rel⟩
      · intro b u z
        cases z
    | none =>
      refine ⟨fun b => if b = a then some (.frz ⟨.type "list", none, .seq vs.toArray 0, #[]⟩ (.lst (ns.map V.int))) else none, ?_, ?_, ?_, ?_, fun o z => by cases z⟩
      · intro b
        by_cases e : b = a
        · exact Or.inr ⟨_, _, if_pos e⟩
        · exact Or.inl (if_neg e)
      · exact Or.inl (Or.inr ⟨_, if_pos rfl⟩)
      · intro b u z
        by_cases e : b = a
        · subst e
          dsimp only at z
          rw [if_pos rfl] at z
          cases z
          exact ⟨obj, by rw [List.length_map]; exact short, vs, _, rel, obj⟩
        · dsimp only at z
          rw [if_neg e] at z
          cases z
      · intro b z
        by_cases e : b = a
        · exact e
        · exact (z (if_neg e)).elim
  have free : ∀ {b : Addr} {o : Obj} {es : Array DictEntry} {n : Nat}, s₁.heap.get? b = some o → o.data = .dict es n → H b = none := by
    intro b o es n z d
    cases q : H b with
    | none => rfl
    | some u =>
      have e := alone b (by rw [q]; exact fun y => nomatch y)
      subst e
      rw [obj] at z
      cases z
      cases (show Data.seq vs.toArray 0 = Data.dict es n from d)
  have keepNs : ∀ {b : Addr} {m : Str → Option Value}, s₁.heap.Ns b m → (hidT s₁.heap H).Ns b m := by
    rintro b m ⟨o, es, n, z, d, r⟩
    exact ⟨o, es, n, hidT_get z (free z d), d, r⟩
  have keepK : K.In (hidT s₁.heap H) := by
    intro b o z
    refine hidT_get (inK b o z) ?_
    cases q : H b with
    | none => rfl
    | some u =>
      have e := alone b (by rw [q]; exact fun y => nomatch y)
      subst e
      rw [apart o z] at q
      cases q
  have mod : Mod K mg (hidT s₁.heap H) := by
    obtain ⟨mc, c1, c2⟩ := nolim
    exact ⟨keepK, keepNs glob, ⟨mb, keepNs blt, plain⟩, ⟨mc, keepNs c1, c2⟩⟩
  have env : Env0 P w K mg (hidT s₁.heap H) callerA [] s₁ H := by
    refine ⟨rfl, mod, fun b o z => of_hidT z, ?_, trivial, ?_, held, .of_eq nogen⟩
    · rw [hidT_size]
      exact Nat.le_refl _
    · intro b z
      exact nomatch (show b ∈ ([] : List Addr) from z)
  have ran := (F _ keepK (keepNs glob)).run callerA [] s₁ H ⟨[.ref a], []⟩ [.ref a] [.ref a] _ _ room rfl env (bd s₁ (.ref a)) (.cons rfl .nil) (want H only script)
  refine codeAny_mono ran ?_
  intro r s2 end2
  cases r with
  | error e => exact (noX H e s2 end2).elim
  | ok fl =>
    cases fl with
    | next => exact False.elim end2
    | brk => exact False.elim end2
    | cont => exact False.elim end2
    | ret u =>
      obtain ⟨v, H2, os2, bare2, un2, ok2, rv, yes⟩ := end2
      have yes' : v = .bl true := yes
      subst yes'
      have eu : u = Value.bool true := rv
      subst eu
      refine ⟨rfl, OldK.of_keep ?_, os2, bare2⟩
      intro b o z
      rcases only b with no | ⟨ob, xs, fz⟩
      · refine un2.keep b o z no ?_ ?_
        · intro y
          exact nomatch (show b ∈ ([] : List Addr) from y)
        · intro y
          exact nomatch y
      · have was := (held b _ fz).1
        have now := (ok2 b _ (un2.frzs b ob _ fz)).1
        rw [z] at was
        cases was
        exact now

theorem walk_G {l : PySem.W.OpenLaw} {n k : Nat} {q : Program} {loose : List Str} {XP : (Str → Option Value) → Heap → Prop} {YP : World → Heap → Prop} {d : DefRec} {K : Params → PySem.W.Frag} {sp : PySem.W.Frag → Sp} {x : Str}
    (hn : l.most = some n) (fits : n ≤ sizeLine) (nodf : d.params.defaults = []) (room : Room k callerA) (hY : ∀ (w : World) (h : Heap), YP w h → (K w.params).In h)
    (F : ∀ (w : World) (mg : Str → Option Value) (fa : Addr) (h : Heap), (K w.params).In h → h.Ns mainGlobals mg → mg d.name = some (.ref fa) → ∃ fd : FuncData, (∀ (s : Shared) (u : Value), BindsTo s fd ⟨[u], []⟩ [(x, u)]) ∧
      ∀ b : Heap, (K w.params).In b → b.Ns mainGlobals mg → FnG l.prog w (K w.params) mg b CX0 k fa fd [x] (sp (K w.params)))
    (want : ∀ (K : PySem.W.Frag) (H : Hp) (a : Addr) (ns : List Int), ns.length ≤ n → Only H → SqL K H a (ns.map V.int) → sp K [.ref a] H (fun v _ => v = .bl true) fun _ _ _ => False) :
    PySem.W.WalkO q loose XP YP l.row.toRowW d [] (fun f vs => PySem.call f vs) := by
  apply Att.attach_call hn nodf
  intro w s₀ s₁ mg mb fa o pm cd doc a vs ns G Y ho hd hcd hmg obj isInts hlen nogen
  obtain ⟨fd, bd, hF⟩ := F w mg fa _ (hY w _ Y) G.T.g hmg
  exact law_runG (hY w _ Y) G.T.g G.T.b G.T.builtins G.T.nolimit nogen obj isInts (Nat.le_trans hlen fits) room hF bd (fun H h1 h2 => want _ H a ns hlen h1 h2) (fun _ _ _ z => z)
end
end Gd
/-! Data at any depth, dicts of plain values among them, and what repr says of it. -/
namespace Gd
open PySem PySem.Spec PyProof.Rows L2

/-- a plain value as data -/
def vD : V → PyData
  | .non => .none
  | .bl b => .bool b
  | .int i => .int i
  | .str x => .str x
  | _ => .none
def kD : Key → PyData
  | .inl i => .int i
  | .inr x => .str x
def plainV : V → Bool
  | .non => true
  | .bl _ => true
  | .int _ => true
  | .str _ => true
  | _ => false

/-- the value v is the data d, and none of its objects is one of av -/
inductive Dv (av : Addr → Prop) (H : Hp) : V → PyData → Prop
  | non : Dv av H .non .none
  | bl (b : Bool) : Dv av H (.bl b) (.bool b)
  | int (i : Int) : Dv av H (.int i) (.int i)
  | str (x : Str) : Dv av H (.str x) (.str x)
  | lst {a : Addr} {xs : List V} {ds : List PyData} : H a = some (.lst xs) → ¬ av a → xs.length = ds.length → (∀ (i : Nat) (x : V) (d : PyData), xs[i]? = some x → ds[i]? = some d → Dv av H x d) → Dv av H (.ref a) (.list ds)
  | tup {a : Addr} {xs : List V} {ds : List PyData} : H a = some (.tup xs) → ¬ av a → xs.length = ds.length → (∀ (i : Nat) (x : V) (d : PyData), xs[i]? = some x → ds[i]? = some d → Dv av H x d) → Dv av H (.ref a) (.tuple ds)
  | dct {a : Addr} {kvs : List (Key × V)} : H a = some (.dK kvs) → ¬ av a → (∀ p ∈ kvs, plainV p.2 = true) → Dv av H (.ref a) (.dict (kvs.map fun p => (kD p.1, vD p.2)))

/-- all but the objects of av stays -/
def Kp (av : Addr → Prop) (H H' : Hp) : Prop := ∀ b o, H b = some o → ¬ av b → H' b = some o
theorem Kp.refl {av : Addr → Prop} (H : Hp) : Kp av H H := fun _ _ h _ => h
theorem Kp.trans {av : Addr → Prop} {H H1 H2 : Hp} (a : Kp av H H1) (b : Kp av H1 H2) : Kp av H H2 := fun c o h n => b c o (a c o h n) n
theorem Kp.of_same {av : Addr → Prop} {H H1 : Hp} (a : Same H H1) : Kp av H H1 := fun c o h _ => a c o h
theorem Dv.keep {av : Addr → Prop} {H H' : Hp} (k : Kp av H H') {v : V} {d : PyData} (h : Dv av H v d) : Dv av H' v d := by
  induction h with
  | non => exact .non
  | bl b => exact .bl b
  | int i => exact .int i
  | str x => exact .str x
  | lst e n l _ ih => exact .lst (k _ _ e n) n l ih
  | tup e n l _ ih => exact .tup (k _ _ e n) n l ih
  | dct e n p => exact .dct (k _ _ e n) n p

section
variable {prog : Program} {w : World} {h : Heap}
def Rk (prog : Program) (w : World) (h : Heap) (u : Value) (d : PyData) : Prop := (∃ as, Reads h u d as) ∧ ∃ bs, ReadAtMost h d.depth bs ∧ ReprK prog w bs h d.depth u d.shown
def RkAll (prog : Program) (w : World) (h : Heap) (us : List Value) (ds : List PyData) : Prop :=
  (∃ as, ReadsAll h us ds as) ∧ ∃ bs, ReadAtMost h (PyData.depthAll ds) bs ∧ ReprAllK prog w bs h (PyData.depthAll ds) us (PyData.shownAll ds)
theorem rk_nil : RkAll prog w h [] [] := ⟨⟨_, .nil⟩, [], (fun _ z => nomatch z), by rw [PyData.shownAll]; exact .nil⟩
theorem rk_cons {u : Value} {d : PyData} {us : List Value} {ds : List PyData} (a : Rk prog w h u d) (b : RkAll prog w h us ds) : RkAll prog w h (u :: us) (d :: ds) := by
  obtain ⟨⟨as, r⟩, b1, m1, k1⟩ := a
  obtain ⟨⟨cs, rs⟩, b2, m2, k2⟩ := b
  refine ⟨⟨_, .cons r rs⟩, b1 ++ b2, ?_, ?_⟩
  · rw [PyData.depthAll]
    exact (m1.mono (Nat.le_max_left _ _)).append (m2.mono (Nat.le_max_right _ _))
  · rw [PyData.depthAll, PyData.shownAll]
    refine .cons ((k1.more ?_).level_le (Nat.le_max_left _ _)) (k2.more_le ?_ (Nat.le_max_right _ _))
    · exact fun c z => List.mem_append_left _ z
    · exact fun c z => List.mem_append_right _ z
theorem rk_list {a : Addr} {o : Obj} {vs : List Value} {n : Nat} {ds : List PyData} (e : h.get? a = some o) (c : o.cls = .type "list") (dt : o.data = .seq vs.toArray n) (all : RkAll prog w h vs ds) : Rk prog w h (.ref a) (.list ds) := by
  obtain ⟨⟨as, rs⟩, bs, m, k⟩ := all
  have r : Reads h (.ref a) (.list ds) (a :: as) := .list e c dt rs
  have deep : PyData.depth (.list ds) = PyData.depthAll ds + 1 := by rw [PyData.depth]
  refine ⟨⟨_, r⟩, a :: bs, ReadAtMost.cons r (by omega) m, ?_⟩
  rw [deep, PyData.shown]
  cases vs with
  | nil =>
    cases rs
    rw [PyData.shownAll, listText_nil]
    exact ReprK.listEmpty e c dt
  | cons x l => exact ReprK.list e c dt (not_mem_of_deeper r (by omega) m) (by simpa using k.length_eq) (fun i y z => k.item i y (by simpa using z))
theorem rk_tuple {a : Addr} {o : Obj} {vs : List Value} {n : Nat} {ds : List PyData} (e : h.get? a = some o) (c : o.cls = .type "tuple") (dt : o.data = .seq vs.toArray n) (all : RkAll prog w h vs ds) : Rk prog w h (.ref a) (.tuple ds) := by
  obtain ⟨⟨as, rs⟩, bs, m, k⟩ := all
  have r : Reads h (.ref a) (.tuple ds) as := .tuple e c dt rs
  have deep : PyData.depth (.tuple ds) = PyData.depthAll ds + 1 := by rw [PyData.depth]
  refine ⟨⟨_, r⟩, a :: bs, ReadAtMost.cons r (by omega) m, ?_⟩
  rw [deep, PyData.shown]
  exact ReprK.tuple e c dt (not_mem_of_deeper r (by omega) m) k
theorem rk_plain {v : V} {u : Value} (p : plainV v = true) (r : RelV v u) : Reads h u (vD v) [] := by
  cases v with
  | non => cases r; exact .none
  | bl b => cases r; exact .bool b
  | int i => obtain ⟨t, rfl⟩ := r; exact .int i t
  | str x => obtain ⟨t, rfl⟩ := r; exact .str x t
  | byt b => cases p
  | flt b => cases p
  | ref a => cases p
  | ty n => cases p
theorem rk_dict {a : Addr} {kvs : List (Key × V)} (ok : ObjOk prog w H h a (.dK kvs)) (pl : ∀ p ∈ kvs, plainV p.2 = true) (sh : (PyData.dict (kvs.map fun p => (kD p.1, vD p.2))).showable = true)
    (sz : (PyData.dict (kvs.map fun p => (kD p.1, vD p.2))).shown.length ≤ sizeLine) : Rk prog w h (.ref a) (.dict (kvs.map fun p => (kD p.1, vD p.2))) := by
  obtain ⟨_, hm, vs, rel, o, es, ep, e, ex, dt, _, prs, _⟩ := ok
  have ks : ∀ (kvs : List (Key × V)) (vs : List (Key × Value)) (l : List DictEntry), (∀ p ∈ kvs, plainV p.2 = true) → KV kvs vs → Pairs (mixKind prog w) l vs →
      ReadsAll h (l.map (·.key)) ((kvs.map fun p => (kD p.1, vD p.2)).map (·.1)) [] ∧ ReadsAll h (l.map (·.val)) ((kvs.map fun p => (kD p.1, vD p.2)).map (·.2)) [] := by
    intro kvs
    induction kvs with
    | nil =>
      intro vs l _ q p
      cases q
      cases p
      exact ⟨.nil, .nil⟩
    | cons kv kvs ih =>
      intro vs l pl q p
      cases q with
      | cons q1 q2 =>
        cases p with
        | cons p1 p2 p3 =>
          obtain ⟨i1, i2⟩ := ih _ _ (fun p z => pl p (List.mem_cons_of_mem _ z)) q2 p3
          obtain ⟨q1a, q1b⟩ := q1
          refine ⟨?_, ?_⟩
          · refine ReadsAll.cons (as := []) (bs := []) ?_ i1
            rw [← q1a] at p1
            obtain ⟨k1, v1⟩ := kv
            rcases keyIs_shape p1 with ⟨i, t, ek, ev⟩ | ⟨x, t, ek, ev⟩
            · dsimp only at ek
              subst ek
              dsimp only
              rw [ev]
              exact .int i t
            · dsimp only at ek
              subst ek
              dsimp only
              rw [ev]
              exact .str x t
          · refine ReadsAll.cons (as := []) (bs := []) ?_ i2
            dsimp only
            rw [p2]
            exact rk_plain (pl kv List.mem_cons_self) q1b
  obtain ⟨r1, r2⟩ := ks kvs vs es.toList pl rel prs
  have r : Reads h (.ref a) (.dict (kvs.map fun p => (kD p.1, vD p.2))) (a :: [] ++ []) := .dict e ex.1 dt r1 r2
  refine ⟨⟨_, r⟩, ReprK.of_reads r sh (fun _ z => ?_) sz⟩
  rcases List.mem_cons.mp z with q | q
  · rw [← q] at hm
    exact Bool.noConfusion ((beq_self_eq_true sysModules).symm.trans hm)
  · exact nomatch q
end

theorem shownAll_mem : ∀ {ds : List PyData} {d : PyData}, d ∈ ds → d.shown ∈ PyData.shownAll ds
  | [], _, h => nomatch h
  | x :: r, d, h => by
    rw [PyData.shownAll]
    rcases List.mem_cons.mp h with rfl | h
    · exact List.mem_cons_self
    · exact List.mem_cons_of_mem _ (shownAll_mem h)
theorem showableAll_mem : ∀ {ds : List PyData} {d : PyData}, PyData.showableAll ds = true → d ∈ ds → d.showable = true
  | [], _, _, h => nomatch h
  | x :: r, d, s, h => by
    rw [PyData.showableAll, Bool.and_eq_true] at s
    rcases List.mem_cons.mp h with rfl | h
    · exact s.1
    · exact showableAll_mem s.2 h

section
variable {X : Cx} {pins : List (Addr × Obj)} {σ : L2.St} {H : Hp} {s : Shared} {av : Addr → Prop}
theorem rk_all {xs : List V} {ds : List PyData} (ih : ∀ (i : Nat) (x : V) (d : PyData), xs[i]? = some x → ds[i]? = some d → ∀ u, RelV x u → Rk X.prog X.w s.heap u d) (l : xs.length = ds.length) {us : List Value} (r : Vals xs us) : RkAll X.prog X.w s.heap us ds := by
  induction r generalizing ds with
  | nil =>
    cases ds with
    | nil => exact rk_nil
    | cons d ds => cases l
  | cons r1 r2 ih2 =>
    cases ds with
    | nil => cases l
    | cons d ds => exact rk_cons (ih 0 _ _ rfl rfl _ r1) (ih2 (fun i x e h1 h2 => ih (i + 1) x e h1 h2) (Nat.succ.inj l))
theorem Dv.rk (I : Inv X pins σ H s) {v : V} {d : PyData} (h : Dv av H v d) : d.showable = true → d.shown.length ≤ sizeLine → ∀ u, RelV v u → Rk X.prog X.w s.heap u d := by
  have flat : ∀ {u : Value} {d : PyData}, Reads s.heap u d [] → d.hasDict = false → d.showable = true → d.shown.length ≤ sizeLine → Rk X.prog X.w s.heap u d := fun r n sh sz => ⟨⟨_, r⟩, ReprK.of_reads r sh (fun z => by rw [n] at z; cases z) sz⟩
  induction h with
  | non => intro sh sz u r; cases r; exact flat .none rfl sh sz
  | bl b => intro sh sz u r; cases r; exact flat (.bool b) rfl sh sz
  | int i => intro sh sz u r; obtain ⟨t, rfl⟩ := r; exact flat (.int i t) rfl sh sz
  | str x => intro sh sz u r; obtain ⟨t, rfl⟩ := r; exact flat (.str x t) rfl sh sz
  | lst e n l _ ih =>
    intro sh sz u r
    cases r
    obtain ⟨_, its, m, rv, ho⟩ := I.hok _ _ e
    rw [PyData.shown] at sz
    rw [PyData.showable] at sh
    refine rk_list ho rfl rfl (rk_all (fun i x d h1 h2 u q => ?_) l rv)
    exact ih i x d h1 h2 (showableAll_mem sh (List.mem_of_getElem? h2)) (Nat.le_trans (listText_mem_le (shownAll_mem (List.mem_of_getElem? h2))) sz) u q
  | tup e n l _ ih =>
    intro sh sz u r
    cases r
    obtain ⟨_, its, rv, o, ho, hc, m, hd⟩ := I.hok _ _ e
    rw [PyData.shown] at sz
    rw [PyData.showable] at sh
    refine rk_tuple ho hc hd (rk_all (fun i x d h1 h2 u q => ?_) l rv)
    exact ih i x d h1 h2 (showableAll_mem sh (List.mem_of_getElem? h2)) (Nat.le_trans (tupleText_mem_le (shownAll_mem (List.mem_of_getElem? h2))) sz) u q
  | dct e n p =>
    intro sh sz u r
    cases r
    exact rk_dict (I.hok _ _ e) p sh sz

/-- repr(x), x any data: its text -/
def rRepr (av : Addr → Prop) : List V → Hp → VK → Prop := fun xs H Q => ∃ x d, xs = [x] ∧ Dv av H x d ∧ d.showable = true ∧ d.shown.length ≤ sizeLine ∧ d.depth ≤ 60 ∧ Q (.str d.shown) H
theorem call_repr (hg : X.A.guards = some []) (hu : X.A.units + 64 < cLine) : CallR X (.builtin "repr") (rRepr av) := by
  intro pins s σ H xs us Q I r want
  obtain ⟨x, d, rfl, dv, sh, sz, dp, q⟩ := want
  obtain ⟨u, rfl, ru⟩ := vals1 r
  have ends : ∀ h' t tk, (∀ b o, s.heap.get? b = some o → h'.get? b = some o) → EP X pins σ Q (.str d.shown t) { s with heap := h', toks := tk } := fun h' t tk k => ⟨.str d.shown, H, I.kept k, ⟨t, rfl⟩, q⟩
  have all := dv.rk I sh sz u ru
  have g1 : X.A.in1.guards = some [] := hg
  have u1 : X.A.in1.units + 63 < cLine := by show X.A.units + 1 + 63 < cLine; omega
  cases dv with
  | non => cases ru; exact PySem.P.repr_of_none (ends s.heap _ _ fun _ _ e => e)
  | bl b =>
    cases ru
    refine PySem.P.repr_of_bool ?_
    have z := ends s.heap s.toks (s.toks + 1) fun _ _ e => e
    rw [PyData.shown] at z
    exact z
  | int i =>
    obtain ⟨t, rfl⟩ := ru
    refine PySem.P.repr_of_int (by simpa [PyData.showable] using sh) ?_
    have z := ends s.heap s.toks (s.toks + 1) fun _ _ e => e
    rw [PyData.shown] at z
    exact z
  | str y =>
    obtain ⟨t, rfl⟩ := ru
    refine PySem.P.repr_of_str ?_ (by simpa only [PyData.shown] using sz)
    have z := ends s.heap s.toks (s.toks + 1) fun _ _ e => e
    rw [PyData.shown] at z
    exact z
  | @lst a ys ds e n l f =>
    cases ru
    obtain ⟨_, its, m, rv, ho⟩ := I.hok _ _ e
    have sh' := sh
    have sz' := sz
    rw [PyData.showable] at sh'
    rw [PyData.shown] at sz'
    have parts : RkAll X.prog X.w s.heap its ds := rk_all (fun i x d h1 h2 u q => (f i x d h1 h2).rk I (showableAll_mem sh' (List.mem_of_getElem? h2)) (Nat.le_trans (listText_mem_le (shownAll_mem (List.mem_of_getElem? h2))) sz') u q) l rv
    obtain ⟨⟨as, rs⟩, bs, mb, k⟩ := parts
    have rd : Reads s.heap (.ref a) (.list ds) (a :: as) := .list ho rfl rfl rs
    have deep : PyData.depth (.list ds) = PyData.depthAll ds + 1 := by rw [PyData.depth]
    refine call_repr_slot (by omega) ⟨_, ho, rfl⟩ PySem.F.slot_list_repr.toG ?_
    rw [PyData.shown] at ends
    cases its with
    | nil =>
      cases rs
      rw [PyData.shownAll, listText_nil] at ends
      exact call_list_repr_empty ⟨_, ho, rfl⟩ ho rfl ⟨_, _, rfl, ends s.heap _ _ fun _ _ e => e⟩
    | cons y its =>
      exact call_list_reprK ho rfl rfl (not_mem_of_deeper rd (by omega) mb) (by simpa using k.length_eq) (fun i y z => k.item i y (by simpa using z)) g1 (fun b _ => Clear.nil b) (by omega) (fun _ _ e => e) (fun h' t tk kk => ⟨_, _, rfl, ends h' t tk kk⟩) sz'
  | @tup a ys ds e n l f =>
    cases ru
    obtain ⟨_, its, rv, o, ho, hc, m, hd⟩ := I.hok _ _ e
    have sh' := sh
    have sz' := sz
    rw [PyData.showable] at sh'
    rw [PyData.shown] at sz'
    have parts : RkAll X.prog X.w s.heap its ds := rk_all (fun i x d h1 h2 u q => (f i x d h1 h2).rk I (showableAll_mem sh' (List.mem_of_getElem? h2)) (Nat.le_trans (tupleText_mem_le (shownAll_mem (List.mem_of_getElem? h2))) sz') u q) l rv
    obtain ⟨⟨as, rs⟩, bs, mb, k⟩ := parts
    have rd : Reads s.heap (.ref a) (.tuple ds) as := .tuple ho hc hd rs
    have deep : PyData.depth (.tuple ds) = PyData.depthAll ds + 1 := by rw [PyData.depth]
    refine call_repr_slot (by omega) ⟨_, ho, hc⟩ PySem.F.slot_tuple_repr ?_
    rw [PyData.shown] at ends
    exact call_tuple_reprK ho hc hd (not_mem_of_deeper rd (by omega) mb) k g1 (fun b _ => Clear.nil b) (by omega) (fun _ _ e => e) (fun h' t tk kk => ⟨_, _, rfl, ends h' t tk kk⟩) sz'
  | @dct a kvs e n p =>
    cases ru
    obtain ⟨⟨as, rd⟩, _⟩ := all
    obtain ⟨_, hm, vs, rel, o, es, ep, e1, ex, dt, _, prs, _⟩ := (show ObjOk X.prog X.w H s.heap a (.dK kvs) from I.hok _ _ e)
    have deep : (PyData.dict (kvs.map fun p => (kD p.1, vD p.2))).depth ≤ 60 := dp
    have nos : sysModules ∉ as := by
      cases rd with
      | dict h1 h2 h3 h4 h5 =>
        have flatAll : ∀ {us : List Value} {ds : List PyData} {cs : List Addr}, ReadsAll s.heap us ds cs → (∀ d ∈ ds, d.depth = 0) → cs = [] := by
          intro us
          induction us with
          | nil => intro ds cs q _; cases q; rfl
          | cons u us ih =>
            intro ds cs q z
            cases q with
            | cons q1 q2 =>
              have z1 := z _ List.mem_cons_self
              have z2 := ih q2 fun d m => z d (List.mem_cons_of_mem _ m)
              subst z2
              cases q1 with
              | list => rw [PyData.depth] at z1; omega
              | tuple => rw [PyData.depth] at z1; omega
              | dict => rw [PyData.depth] at z1; omega
              | _ => rfl
        have k1 := flatAll h4 (fun d m => by
          obtain ⟨q, hq, rfl⟩ := List.mem_map.mp m
          obtain ⟨r, hr, rfl⟩ := List.mem_map.mp hq
          obtain ⟨kk, vv⟩ := r
          cases kk <;> simp only [kD, PyData.depth])
        have k2 := flatAll h5 (fun d m => by
          obtain ⟨q, hq, rfl⟩ := List.mem_map.mp m
          obtain ⟨r, hr, rfl⟩ := List.mem_map.mp hq
          obtain ⟨kk, vv⟩ := r
          cases vv <;> simp only [vD, PyData.depth])
        subst k1 k2
        intro z
        rcases List.mem_cons.mp z with q | q
        · rw [← q] at hm
          exact Bool.noConfusion ((beq_self_eq_true sysModules).symm.trans hm)
        · exact nomatch q
    exact repr_of_reads' rd sh (fun _ => nos) hg (by omega) (fun _ _ e => e) (fun h' t tk kk => ends h' t tk kk) sz
end
end Gd
namespace Lw
open PySem PySem.Spec PyProof.Rows L2 Gd
def topS (i : Nat) : Stmt := PySem.Challenge.pw_leastplaces_k16_whole_trees_there_and_ba.main.body.getD i (.Pass ⟨0, 0, 0, 0⟩)
abbrev sStream : Stmt := topS 21
abbrev sDraw : Stmt := topS 22
theorem scDraw : FnScope ["_law_stream_here", "_law_many", "_law_rest", "_law_turn", "_law_cell", "_law_mixed"] ["_law_stream_here", "_law_many"] (defScope sDraw) := ⟨rfl, rfl, rfl, by decide +kernel, rfl, by decide +kernel, by decide +kernel⟩

/-! ### the stream -/
/-- what the draws may change -/
abbrev Av (s a : Addr) : Addr → Prop := fun x => x = s ∨ x = a
structure Sm (H : Hp) (s a b : Addr) (n : Nat) : Prop where
  ex : ∃ (t : Int) (bigs cells : List Int), H s = some (.lst [.ref a, .ref b, .int t]) ∧ H a = some (.lst (bigs.map V.int)) ∧ H b = some (.lst (cells.map V.int)) ∧ (∀ c ∈ bigs, 0 ≤ c) ∧ (∀ c ∈ cells, 0 ≤ c) ∧ cells ≠ [] ∧
    cells.length ≤ 64 ∧ bigs.length ≤ 63 ∧ 0 ≤ t ∧ t ≤ n
  sa : s ≠ a
  sb : s ≠ b
  ab : a ≠ b
theorem Sm.keep {H H' : Hp} {s a b : Addr} {n : Nat} (x : Sm H s a b n) (k : Same H H') : Sm H' s a b n := by
  obtain ⟨⟨t, bigs, cells, h1, h2, h3, r⟩, p1, p2, p3⟩ := x
  exact ⟨⟨t, bigs, cells, k _ _ h1, k _ _ h2, k _ _ h3, r⟩, p1, p2, p3⟩
theorem Sm.mono {H : Hp} {s a b : Addr} {n m : Nat} (x : Sm H s a b n) (k : n ≤ m) : Sm H s a b m := by
  obtain ⟨⟨t, bigs, cells, h1, h2, h3, h4, h5, h6, h7, h8, h9, h10⟩, p1, p2, p3⟩ := x
  exact ⟨⟨t, bigs, cells, h1, h2, h3, h4, h5, h6, h7, h8, h9, by omega⟩, p1, p2, p3⟩
theorem same_upd {H : Hp} {p : Addr} {o : HO} (h : H p = none) : Same H (upd H p o) := fun b x e => by
  rw [upd_ne (ne_of_none e h)]
  exact e
theorem dpAll_ints {K : PySem.W.Frag} {H : Hp} : ∀ ns : List Int, DpAll K H (ns.map V.int) (ns.map PyData.int)
  | [] => .nil
  | n :: r => .cons (.int n) (dpAll_ints r)
theorem eqv_nil (ns : List Int) : PyData.eqv (.list (ns.map PyData.int)) (.list []) = ns.isEmpty := by
  cases ns <;> simp [PyData.eqv, PyData.eqvAll]

theorem ixN_cons {x : Int} {r : List Int} : ixN ((x :: r).map V.int).length 0 = some 0 := by
  unfold ixN
  rw [if_pos (Int.le_refl 0), if_pos (by rw [List.length_map, List.length_cons]; omega)]
  rfl
def spDraw : Sp := fun vs H Q _ => ∃ (s a b : Addr) (n : Nat) (m : Int), vs = [.ref s, .int m] ∧ Sm H s a b n ∧ n < 1000000 ∧ 0 < m ∧ m ≤ 1000000000 ∧
  ∀ H' r, Kp (Av s a) H H' → Sm H' s a b (n + 1) → 0 ≤ r → r < m → Q (.int r) H'
section
variable {P : Program} {w : World} {K : PySem.W.Frag} {mg : Str → Option Value} {base : Heap}
theorem ok_draw {f : Addr} {fd : FuncData} {k : Nat} (F : Fun K "_law_draw" "_law_draw" sDraw f fd) (ml : mg "len" = none) : FnOk P w K mg base CX0 (k + 1) f fd ["_law_stream_here", "_law_many"] spDraw := by
  refine F.ok scDraw (fun vs H Q E h => ?_) (fun cdv A outer st H vs Q E hr h => ?_)
  · obtain ⟨s, a, b, n, m, rfl, _⟩ := h
    rfl
  · obtain ⟨s, a, b, n, m, rfl, sm, hn, m0, m1, q⟩ := h
    have mIx : ∀ {i : Nat}, PlainIx (.Constant (.int 0) 0 ⟨i, i, i, i⟩) := fun _ _ => rfl
    refine ⟨_, pss_cons (ps_while PassesOwn.never (pt_cmpR (op_neD hr.units) (pe_ix ix_list (pv 0) pe_int (fun _ _ => rfl)) (pe_lst pa_nil) (nomark _))
        (pss_cons (ps_set (i := 2) scDraw.nd rfl (.inl rfl) (pe_ix ix_list (pe_ix ix_list (pv 0) pe_int (fun _ _ => rfl)) pe_int (fun _ _ => rfl)))
        (pss_cons (ps_if (pt_cmpR op_gt (pv 2) pe_int (nomark _))
          (pss_cons (ps_asg (pe_op op_fdiv (pv 2) (pv 1)) (pg_sub (pe_ix ix_list (pv 0) pe_int (fun _ _ => rfl)) pe_int set_list))
            (pss_one (ps_ret (pe_op op_mod (pv 2) (pv 1))))) pss_nil)
        (pss_one (ps_expr (pe_bm PySem.F.plainAttrs_list PySem.F.slot_list_pop PySem.F.type_list_pop mt_popAt (pe_ix ix_list (pv 0) pe_int (fun _ _ => rfl)) (pa_cons pe_int pa_nil)))))))
      (pss_cons (ps_set (i := 3) scDraw.nd rfl (.inl rfl) (pe_op op_add (pe_ix ix_list (pv 0) pe_int (fun _ _ => rfl)) pe_int))
      (pss_cons (ps_asg (pv 3) (pg_sub (pv 0) pe_int set_list))
      (pss_cons (ps_set (i := 4) scDraw.nd rfl (.inl rfl) (pe_op op_mod (pe_ix ix_list (pe_ix ix_list (pv 0) pe_int (fun _ _ => rfl))
          (pe_op op_mod (pv 3) (pe_callB call_len_seq (by rfl) ml PySem.boot_len (pa_cons (pe_ix ix_list (pv 0) pe_int (fun _ _ => rfl)) pa_nil))) (fun _ _ => rfl)) pe_int))
      (pss_cons (ps_set (i := 5) scDraw.nd rfl (.inl rfl) (pe_op op_mod (pe_op op_add (pe_op op_add (pe_op op_mul (pv 4) (pe_op op_add pe_int (pe_op op_mul pe_int (pv 3)))) (pe_op op_mul (pe_op op_mul pe_int (pv 3)) (pv 3))) pe_int) pe_int))
      (pss_one (ps_ret (pe_op op_mod (pe_op op_fdiv (pe_op op_mod (pe_op op_mul (pv 5) (pv 5)) pe_int) pe_int) (pv 1)))))))), ?_⟩
    refine ⟨fun c σ H1 => Kp (Av s a) H H1 ∧ Sm H1 s a b n ∧ (∃ y2, σ = [some (.ref s), some (.int m), y2, none, none, none]) ∧ ∃ bigs : List Int, H1 a = some (.lst (bigs.map V.int)) ∧ bigs.length = c, ?_, fun c σ H1 hw => ?_⟩
    · obtain ⟨⟨t, bigs, cells, hS, hA, _⟩, _⟩ := id sm
      exact ⟨_, Kp.refl _, sm, ⟨none, rfl⟩, bigs, hA, rfl⟩
    obtain ⟨kp, ⟨⟨t, bigs, cells, hS, hA, hB, bp, cp, cn, cl, bl, t0, tn⟩, sa, sb, ab⟩, ⟨y2, rfl⟩, bigs', hA', hc⟩ := hw
    have eb : bigs' = bigs := by
      have z := hA'.symm.trans hA
      have z2 : bigs'.map V.int = bigs.map V.int := HO.lst.inj (Option.some.inj z)
      exact (List.map_inj_right (fun x y e => V.int.inj e)).mp z2
    subst eb
    -- while _law_stream_here[0] != []
    refine ⟨.ref s, rfl, s, _, 0, .ref a, rfl, rfl, .inl (.inl hS), rfl, Nat.zero_le _, fun p np => ?_⟩
    have s1 : Same H1 (upd H1 p (.lst [])) := same_upd np
    refine ⟨.list (bigs'.map PyData.int), .list [], .lst (.inl (.inl (s1 _ _ hA))) (dpAll_ints _), .lst (.inl (.inl upd_same)) .nil, PySem.W.ke_shaped_ints _, by decide +kernel, _, rfl, ?_⟩
    have k1 : Kp (Av s a) H (upd H1 p (.lst [])) := kp.trans (Kp.of_same s1)
    rw [eqv_nil]
    cases bigs' with
    | cons x r =>
      refine iteT ?_
      have x0 : 0 ≤ x := bp x List.mem_cons_self
      refine ⟨fun σ' H' => Kp (Av s a) H H' ∧ Sm H' s a b n ∧ (∃ y2, σ' = [some (.ref s), some (.int m), y2, none, none, none]) ∧ H' a = some (.lst (r.map V.int)), fun σ' H' z => ⟨r.length, by rw [← hc]; exact Nat.lt_succ_self _, z.1, z.2.1, z.2.2.1, r, z.2.2.2, rfl⟩, ?_⟩
      -- _law_rest = _law_stream_here[0][0]
      refine ⟨.ref s, rfl, s, _, 0, .ref a, rfl, rfl, .inl (.inl (s1 _ _ hS)), rfl, a, _, 0, .int x, rfl, rfl, .inl (.inl (s1 _ _ hA)), at_of (j := 0) rfl rfl, ?_⟩
      -- if _law_rest > 0
      refine ⟨.int x, rfl, x, 0, rfl, rfl, _, rfl, ite2 (fun e => ?_) (fun e => ?_)⟩
      · have e' : 0 < x := of_decide_eq_true e
        refine ⟨.int x, rfl, .int m, rfl, x, m, rfl, rfl, ⟨m0, by omega⟩, .ref s, rfl, s, _, 0, .ref a, rfl, rfl, .inl (.inl (s1 _ _ hS)), rfl, a, _, 0, 0, rfl, rfl, s1 _ _ hA, ixN_cons, ?_⟩
        refine ⟨.int x, rfl, .int m, rfl, x, m, rfl, rfl, m0, ?_⟩
        refine q _ _ (fun z o hz nz => ?_) ?_ (Int.emod_nonneg _ (by omega)) (Int.emod_lt_of_pos _ m0)
        · rw [upd_ne (fun e => nz (.inr e))]
          exact k1 z o hz nz
        · refine ⟨⟨t, (x / m) :: r, cells, ?_, ?_, ?_, ?_, cp, cn, cl, bl, t0, by omega⟩, sa, sb, ab⟩
          · rw [upd_ne sa]
            exact s1 _ _ hS
          · rw [upd_same]
            rfl
          · rw [upd_ne (Ne.symm ab)]
            exact s1 _ _ hB
          · intro c hc
            rcases List.mem_cons.mp hc with rfl | hc
            · exact Int.ediv_nonneg x0 (by omega)
            · exact bp c (List.mem_cons_of_mem _ hc)
      · -- _law_stream_here[0].pop(0)
        refine ⟨.ref s, rfl, s, _, 0, .ref a, rfl, rfl, .inl (.inl (s1 _ _ hS)), rfl, .inl ⟨rfl, _, .inl (.inl (s1 _ _ hA))⟩, a, _, 0, 0, .int x, rfl, rfl, s1 _ _ hA, by decide, by decide, (ixN_seq ixN_cons).1, rfl, ?_⟩
        refine ⟨fun z o hz nz => ?_, ⟨⟨t, r, cells, ?_, ?_, ?_, fun c hc => bp c (List.mem_cons_of_mem _ hc), cp, cn, cl, Nat.le_of_succ_le bl, t0, tn⟩, sa, sb, ab⟩, ⟨_, rfl⟩, ?_⟩
        · rw [upd_ne (fun e => nz (.inr e))]
          exact k1 z o hz nz
        · rw [upd_ne sa]
          exact s1 _ _ hS
        · rw [upd_same]
          rfl
        · rw [upd_ne (Ne.symm ab)]
          exact s1 _ _ hB
        · rw [upd_same]
          rfl
    | nil =>
      refine iteF ?_
      -- _law_turn = _law_stream_here[2] + 1
      refine ⟨.ref s, rfl, s, _, 2, .int t, rfl, rfl, .inl (.inl (s1 _ _ hS)), rfl, t, 1, rfl, rfl, ?_⟩
      -- _law_stream_here[2] = _law_turn
      refine ⟨.int (t + 1), rfl, .ref s, rfl, s, _, 2, 2, rfl, rfl, s1 _ _ hS, rfl, ?_⟩
      have gS : (upd (upd H1 p (.lst [])) s (.lst [.ref a, .ref b, .int (t + 1)])) s = some (.lst [.ref a, .ref b, .int (t + 1)]) := upd_same
      have gB : (upd (upd H1 p (.lst [])) s (.lst [.ref a, .ref b, .int (t + 1)])) b = some (.lst (cells.map V.int)) := by
        rw [upd_ne (Ne.symm sb)]
        exact s1 _ _ hB
      have gA : (upd (upd H1 p (.lst [])) s (.lst [.ref a, .ref b, .int (t + 1)])) a = some (.lst (([] : List Int).map V.int)) := by
        rw [upd_ne (Ne.symm sa)]
        exact s1 _ _ hA
      have lpos : 0 < cells.length := List.length_pos_iff.mpr cn
      have ml1 : (0 : Int) < ((cells.map V.int).length : Int) := by rw [List.length_map]; omega
      obtain ⟨j, hj, hj2⟩ : ∃ j : Nat, (t + 1) % ((cells.map V.int).length : Int) = (j : Int) ∧ j < cells.length := by
        refine ⟨((t + 1) % ((cells.map V.int).length : Int)).toNat, ?_, ?_⟩
        · rw [Int.toNat_of_nonneg (Int.emod_nonneg _ (by omega))]
        · have z := Int.emod_lt_of_pos (t + 1) ml1
          rw [List.length_map] at z ⊢
          have z0 : 0 ≤ (t + 1) % (cells.length : Int) := Int.emod_nonneg _ (by omega)
          omega
      have gj : (cells.map V.int)[j]? = some (.int cells[j]) := by
        rw [List.getElem?_map, List.getElem?_eq_getElem hj2]
        rfl
      -- _law_cell
      refine ⟨.ref s, rfl, s, _, 1, .ref b, rfl, rfl, .inl (.inl gS), rfl, .int (t + 1), rfl, .ref s, rfl, s, _, 1, .ref b, rfl, rfl, .inl (.inl gS), rfl, b, _, rfl, .inl (.inl (.inl gB)), t + 1, _, rfl, rfl, ml1,
        b, _, _, .int cells[j], rfl, rfl, .inl (.inl gB), at_of hj gj, cells[j], 2147483587, rfl, rfl, by show (0 : Int) < 2147483587; decide, ?_⟩
      have c0 : 0 ≤ cells[j] % 2147483587 := Int.emod_nonneg _ (by decide)
      have c1 : cells[j] % 2147483587 < 2147483587 := Int.emod_lt_of_pos _ (by decide)
      -- _law_mixed
      refine ⟨_, rfl, _, rfl, 48271, t + 1, rfl, rfl, .inl ⟨by decide, by decide⟩, 40692, _, rfl, rfl, _, _, rfl, rfl, .inl ⟨by omega, by omega⟩, _, rfl, 69621, t + 1, rfl, rfl, .inl ⟨by decide, by decide⟩, _, rfl, _, t + 1, rfl, rfl, .inr ⟨by omega, by omega⟩, _, _, rfl, rfl, _, 23, rfl, rfl, _, 2147483647, rfl, rfl, by show (0 : Int) < 2147483647; decide, ?_⟩
      refine ⟨_, rfl, _, rfl, _, _, rfl, rfl, .inl ⟨?_, ?_⟩, _, 2147483629, rfl, rfl, by show (0 : Int) < 2147483629; decide, _, 16, rfl, rfl, ⟨by decide, by decide⟩, .int m, rfl, _, m, rfl, rfl, m0, ?_⟩
      · exact Int.lt_of_lt_of_le (by decide) (Int.emod_nonneg _ (by decide))
      · exact Int.lt_trans (Int.emod_lt_of_pos _ (by decide)) (by decide)
      · refine q _ _ (fun z o hz nz => ?_) ?_ (Int.emod_nonneg _ (by omega)) (Int.emod_lt_of_pos _ m0)
        · show (upd (upd H1 p (.lst [])) s (.lst [.ref a, .ref b, .int (t + 1)])) z = some o
          rw [upd_ne (fun e => nz (.inl e))]
          exact k1 z o hz nz
        · exact ⟨⟨t + 1, [], cells, gS, gA, gB, bp, cp, cn, cl, bl, by omega, by omega⟩, sa, sb, ab⟩
end
end Lw
namespace Lw
open PySem PySem.Spec PyProof.Rows L2 Gd
theorem scStream : FnScope ["_law_script", "_law_cells", "_law_cell"] ["_law_script"] (defScope sStream) := ⟨rfl, rfl, rfl, by decide +kernel, rfl, by decide +kernel, by decide +kernel⟩
def absI (i : Int) : Int := if i < 0 then -i else i
theorem absI_nn (i : Int) : 0 ≤ absI i := by unfold absI; split <;> omega
theorem getm {α : Type} {ns : List Int} {f : Int → α} {i : Nat} {x : α} (h : (ns.map f)[i]? = some x) : ∃ n, ns[i]? = some n ∧ x = f n := by
  rw [List.getElem?_map] at h
  cases e : ns[i]? with
  | none => rw [e] at h; cases h
  | some n => rw [e] at h; exact ⟨n, rfl, (Option.some.inj h).symm⟩
theorem small_of {n : Nat} (h : n ≤ 100000) : n < sizeLine := Nat.lt_of_le_of_lt h (by decide)
def spStream (K : PySem.W.Frag) : Sp := fun vs H Q _ => ∃ (sc : Addr) (ns : List Int), vs = [.ref sc] ∧ SqL K H sc (ns.map V.int) ∧ ns.length ≤ 63 ∧
  ∀ H' s a b, Same H H' → H s = none → H a = none → H b = none → Sm H' s a b 0 → Q (.ref s) H'
section
variable {P : Program} {w : World} {K : PySem.W.Frag} {mg : Str → Option Value} {base : Heap}
theorem ok_stream {f : Addr} {fd : FuncData} {k : Nat} (F : Fun K "_law_stream" "_law_stream" sStream f fd) (ml : mg "len" = none) (ma : mg "abs" = none) : FnOk P w K mg base CX0 (k + 1) f fd ["_law_script"] (spStream K) := by
  refine F.ok scStream (fun vs H Q E h => ?_) (fun cdv A outer st H vs Q E hr h => ?_)
  · obtain ⟨s, ns, rfl, _⟩ := h
    rfl
  · obtain ⟨sc, ns, rfl, hS, hl, q⟩ := h
    refine ⟨_, pss_cons (ps_setLc (i := 1) (own := [("_law_cell", 2)]) (g := gName 2) (tt := tYes) rfl scStream.nd rfl rfl (sw_true rfl rfl rfl (by decide +kernel)) (pi_list (pv 0))
        (blkOk_by (N := ["_law_script", "_law_cells", "_law_cell"]) (sc := defScope sStream) (by decide +kernel)) (fun _ _ _ _ _ => pg_name (i := 2) scStream.nd rfl (Or.inl rfl)) (fun _ _ _ _ _ => pts_nil)
        (fun _ _ _ _ _ => pe_callB call_abs (by rfl) ma (by decide +kernel) (pa_cons (pv 2) pa_nil)))
      (pss_one (ps_ret (pe_lst (pa_cons (pe_lc (own := [("_law_cell", 2)]) (g := gName 2) (by rfl) scStream.nd (pi_list (pv 1)) (blkOk_by (N := ["_law_script", "_law_cells", "_law_cell"]) (sc := defScope sStream) (by decide +kernel))
          (fun _ _ _ _ _ => pg_name (i := 2) scStream.nd rfl (Or.inl rfl)) (fun _ _ _ _ _ => pts_one (pt_cmpR op_ge (pv 2) (pe_op op_pow pe_int pe_int) (nomark _))) (fun _ _ _ _ _ => pv 2))
        (pa_cons (pe_op op_cat (pv 1) (pe_lst (pa_cons (pe_op op_add (pe_callB call_len_seq (by rfl) ml PySem.boot_len (pa_cons (pv 1) pa_nil)) pe_int) pa_nil))) (pa_cons pe_int pa_nil)))))), ?_⟩
    -- _law_cells
    refine ⟨.ref sc, rfl, sc, rfl, ⟨_, hS⟩, fun D nD => lc_list (xs := ns.map V.int) (fun i H1 => Same H H1 ∧ H1 D = some (.lst ((ns.take i).map fun n => V.int (absI n)))) ⟨same_upd nD, upd_same⟩ (fun i H1 _ p => p.1.seq hS) (fun i x H1 hx p => ?_) (fun H1 p => ?_)⟩
    · obtain ⟨n, hn, rfl⟩ := getm hx
      obtain ⟨sm, hD⟩ := p
      refine ⟨rfl, .int n, rfl, n, rfl, _, hD, ?_, fun b o e => ?_, ?_⟩
      · rw [List.length_map, List.length_take]
        exact small_of (by omega)
      · rw [upd_ne (ne_of_none e nD)]
        exact sm _ _ e
      · rw [upd_same, List.take_add_one, hn, List.map_append]
        rfl
    · obtain ⟨sm1, hD1⟩ := p
      rw [List.length_map, List.take_length] at hD1
      have hD1' : H1 D = some (.lst ((ns.map absI).map V.int)) := by
        rw [hD1, List.map_map]
        rfl
      -- the large cells
      refine ⟨.ref D, rfl, D, rfl, ⟨_, .inl (.inl hD1')⟩, fun A1 nA => lc_list (xs := (ns.map absI).map V.int) (fun i H2 => Same H1 H2 ∧ ∃ bs : List Int, H2 A1 = some (.lst (bs.map V.int)) ∧ bs.length ≤ i ∧ ∀ c ∈ bs, 0 ≤ c) ⟨same_upd nA, [], upd_same, Nat.le_refl _, fun _ z => nomatch z⟩ (fun i H2 _ p => .inl (.inl (p.1 _ _ hD1'))) (fun i x H2 hx p => ?_) (fun H2 p => ?_)⟩
      · obtain ⟨m, hm, rfl⟩ := getm hx
        obtain ⟨n, hn, rfl⟩ := getm hm
        obtain ⟨sm2, bs, hA, lb, pb⟩ := p
        refine ⟨rfl, .int (absI n), rfl, 10, 18, rfl, rfl, ⟨by decide, by decide, by decide⟩, absI n, _, rfl, rfl, _, rfl, ite2 (fun e => ?_) (fun e => ?_)⟩
        · have hi : i < ns.length := (List.getElem?_eq_some_iff.mp hn).1
          refine ⟨.int (absI n), rfl, _, hA, by rw [List.length_map]; exact small_of (by omega), fun b o e => ?_, bs ++ [absI n], ?_, ?_, fun c hc => ?_⟩
          · rw [upd_ne (ne_of_none e nA)]
            exact sm2 _ _ e
          · rw [upd_same, List.map_append]
            rfl
          · rw [List.length_append]
            exact Nat.add_le_add_right lb 1
          · rcases List.mem_append.mp hc with hc | hc
            · exact pb c hc
            · rw [List.mem_singleton.mp hc]
              exact absI_nn n
        · exact ⟨sm2, bs, hA, by omega, pb⟩
      · obtain ⟨sm2, bs, hA, lb, pb⟩ := p
        have lb' : bs.length ≤ 63 := by
          rw [List.length_map, List.length_map] at lb
          omega
        have hD2 := sm2 _ _ hD1'
        -- _law_cells + [len(_law_cells) + 19]
        refine ⟨.ref D, rfl, .ref D, rfl, D, _, rfl, .inl (.inl (.inl hD2)), _, 19, rfl, rfl, by show 1 ≤ sizeLine; decide, fun p1 n1 => ?_⟩
        have s3 := same_upd (o := .lst [.int (((ns.map absI).map V.int).length + 19)]) n1
        refine ⟨D, p1, _, _, rfl, rfl, s3 _ _ hD2, upd_same, ?_, fun B nB => ?_⟩
        · rw [List.length_map, List.length_map]
          exact Nat.le_of_lt (small_of (by show ns.length + 1 ≤ 100000; omega))
        · have s4 := same_upd (o := .lst ((ns.map absI).map V.int ++ [.int (((ns.map absI).map V.int).length + 19)])) nB
          refine ⟨by show 3 ≤ sizeLine; decide, fun s nS => ?_⟩
          have s5 := same_upd (o := .lst [.ref A1, .ref B, .int 0]) nS
          have all := sm1.trans (sm2.trans (s3.trans (s4.trans s5)))
          have g3 := s3 _ _ hA
          have g4 := s4 _ _ g3
          have gB : (upd (upd (upd H2 p1 (.lst [.int (((ns.map absI).map V.int).length + 19)])) B (.lst ((ns.map absI).map V.int ++ [.int (((ns.map absI).map V.int).length + 19)]))) s (.lst [.ref A1, .ref B, .int 0])) B = _ := s5 _ _ upd_same
          refine q _ s A1 B all ((sm1.trans (sm2.trans (s3.trans s4))).free nS) (sm1.free nA) ((sm1.trans (sm2.trans s3)).free nB) ⟨⟨0, bs, ns.map absI ++ [((ns.length : Int) + 19)], upd_same, s5 _ _ g4, ?_, pb, fun c hc => ?_, by simp, ?_, lb', Int.le_refl _, Int.le_refl _⟩, ?_, ?_, ?_⟩
          · rw [gB, List.map_append, List.length_map, List.length_map]
            rfl
          · rcases List.mem_append.mp hc with hc | hc
            · obtain ⟨n, _, rfl⟩ := List.mem_map.mp hc
              exact absI_nn n
            · rw [List.mem_singleton.mp hc]
              omega
          · rw [List.length_append, List.length_map]
            show ns.length + 1 ≤ 64
            omega
          · exact fun e => (ne_of_none g4 nS) e.symm
          · exact fun e => (ne_of_none (H := upd (upd H2 p1 _) B _) upd_same nS) e.symm
          · exact ne_of_none g3 nB
end
end Lw
/-! xs[::k] of a list, k one of 1 and -1 and not written; t[::-1] of a tuple; t == () -/
namespace Gd
open PySem PySem.Spec PyProof.Rows L2
theorem pick_all (its : Array Value) : slicePick its none none (some 1) = its := by
  have hb : sliceBounds none none (some 1) its.size = (0, (its.size : Int), 1) := by simp [sliceBounds]
  have hr : sliceRange 0 (its.size : Int) 1 = List.range its.size := by
    unfold sliceRange
    by_cases h : (0 : Int) < its.size
    · have e : ((its.size : Int) - 0 + 1 - 1) / 1 = its.size := by rw [Int.ediv_one]; omega
      simp only [show (1 : Int) > 0 by decide, if_true, h, e, Int.toNat_natCast]
      refine (List.map_congr_left (g := id) fun k _ => ?_).trans (List.map_id _)
      show (0 + 1 * (k : Int)).toNat = k
      omega
    · have e : its.size = 0 := by omega
      rw [e]
      simp
  unfold slicePick
  rw [hb]
  dsimp only
  rw [hr, PySem.W.krv_all]
section
variable {X : Cx}
/-- what xs[::k] asks -/
def tStep (K : PySem.W.Frag) (te ts : TE) : TE := fun σ H Q => te σ H fun x H1 => ts σ H1 fun y H2 => ∃ a xs k, x = .ref a ∧ SqL K H2 a xs ∧ y = .int k ∧ (k = 1 ∨ k = -1) ∧ ∀ zs p, (zs = xs ∨ zs = xs.reverse) → H2 p = none → Q (.ref p) (upd H2 p (.lst zs))
theorem pe_step {e st : Expr} {te ts : TE} {p3 pos : Pos} (he : PE X e te) (hst : PE X st ts)
    (hops : ∀ o i : Value, subscripted (.Slice none none (some st) p3) false o i = operate [o, i] (getItem o i) := by intro _ _; rfl) :
    PE X (.Subscript e (.Slice none none (some st) p3) pos) (tStep X.K te ts) := by
  refine ⟨fun pins s σ H Q I want => ?_⟩
  refine Subscript_ (thn (he.run pins s σ H _ I want) ?_)
  rintro v s1 ⟨x, H1, I1, r1, want1⟩
  refine wpAny_Slice (thn (po_none.run pins s1 σ H1 (fun o G => o = none ∧ G = H1) I1 ⟨rfl, rfl⟩) ?_)
  rintro vl s2 ⟨l, G2, I2, pl, rfl, rfl⟩
  refine thn (po_none.run pins s2 σ G2 (fun o G => o = none ∧ G = G2) I2 ⟨rfl, rfl⟩) ?_
  rintro vu s3 ⟨u, G3, I3, pu, rfl, rfl⟩
  rw [evalPart_some]
  refine thn (hst.run pins s3 σ G3 _ I3 want1) ?_
  rintro vs s4 ⟨y, H4, I4, ry, a, xs, k, rfl, hx, rfl, hk, want2⟩
  cases r1
  have ps : IsPart vs (some k) := by
    obtain ⟨t, rfl⟩ := ry
    exact IsPart.int _ _
  have I5 : Inv X pins σ H4 { s4 with heap := s4.heap.push { cls := .type "slice", data := .fields #[vl, vu, vs] } } := I4.kept (t' := s4.toks) fun b ob z => Heap.get?_push_of_some _ z
  obtain ⟨its, r, ht, hz⟩ := I5.list hx
  have hlen := r.length
  refine tail_any (ops := [.ref a, .ref s4.heap.objs.size]) ht.isList.typeIs (PySem.slot_list_getitem.lookup) ?_ (hops _ _)
  refine wpAny_getItem_list_slice ht.isList (Heap.IsSliceOf.new _ vl vu vs) pl pu ps (by rcases hk with rfl | rfl <;> decide) ?_ (by rw [List.size_toArray]; omega)
  rcases hk with rfl | rfl
  · rw [pick_all]
    refine ⟨.ref _, _, I5.laid (t' := s4.toks) (o := .lst xs) (fun b ob z => Heap.get?_push_of_some _ z) (Nat.le_refl _) ?_, rfl, want2 _ _ (.inl rfl) (I5.hok.fresh (Nat.le_refl _))⟩
    exact ⟨hz, _, 0, r, Heap.get?_push_size _ rfl⟩
  · rw [PySem.W.krv_pick]
    refine ⟨.ref _, _, I5.laid (t' := s4.toks) (o := .lst xs.reverse) (fun b ob z => Heap.get?_push_of_some _ z) (Nat.le_refl _) ?_, rfl, want2 _ _ (.inr rfl) (I5.hok.fresh (Nat.le_refl _))⟩
    exact ⟨by rw [List.length_reverse]; exact hz, _, 0, r.reverse, Heap.get?_push_size _ rfl⟩
end
end Gd
/-! enumerate(t), t a tuple; t == (), t any tuple -/
namespace Gd
open PySem PySem.Spec PyProof.Rows L2
theorem meets_enum1 {v : Value} {o : Obj} {Hh : Heap → Prop} (B : Begins v o Hh) : Meets (Builtin.«enumerate.__new__» ⟨[.type "enumerate", v], []⟩) (fun _ R s => Hh s.heap ∧
    R (.ok (.ret (.ref (s.heap.push o).objs.size))) { s with heap := (s.heap.push o).push { cls := .type "enumerate", data := .fields #[.none, .bool false, .ref s.heap.objs.size, rawInt 0, .none, .none] } }) :=
  .of_wp fun prog w A R s z => by
    obtain ⟨hp, g, d, tk, os⟩ := s
    obtain ⟨z1, z2⟩ := z
    have hsub := sub_enumerate
    have go : ∀ {A' : Around} {E : Value → Shared → Prop} {Q : Value → Shared → Prop}, Q (.ref hp.objs.size) ⟨hp.push o, g, d, tk, os⟩ → wpAny (model prog w) A' (pyIter v) Q E ⟨hp, g, d, tk, os⟩ := by
      intro A' E Q q
      exact B.iter prog w A' E _ Q z1 q
    wp_walk using go
    refine wpAny_stack_any fun st => wpAny_pure ?_
    split
    · rename_i c _ _ _ _ _
      cases (c == Value.type "enumerate") <;> (wp_walk using go; exact ⟨_, rfl, z2⟩)
    · wp_walk using go
      exact ⟨_, rfl, z2⟩
section
variable {prog : Program} {w : World} {A : Around} {E : Value → Shared → Prop} {s : Shared}
theorem enum1_begins {v : Value} {o : Obj} {Hh : Heap → Prop} {Q : Value → Shared → Prop} (B : Begins v o Hh) (z : Hh s.heap)
    (q : ∀ h', IsEnum h' (s.heap.objs.size + 1) s.heap.objs.size 0 .none → h'.get? s.heap.objs.size = some o → (∀ b o, s.heap.get? b = some o → h'.get? b = some o) → Q (.ref (s.heap.objs.size + 1)) { s with heap := h' }) :
    wpAny (model prog w) A (call (.type "enumerate") [v]) Q E s := by
  refine callType_new F.called_enumerate (by decide) (F.typeCall_enumerate_1 _) (F.newCall_enumerate_1 _) (fun obj => F.args_object_init_2 obj _) F.entry_enumerate_new (meets_enum1 B) ⟨z, ?_⟩
  have size1 : (s.heap.push o).objs.size = s.heap.objs.size + 1 := Heap.size_push ..
  show _ ∧ _
  rw [size1]
  have isE : IsEnum ((s.heap.push o).push { cls := .type "enumerate", data := .fields #[.none, .bool false, .ref s.heap.objs.size, rawInt 0, .none, .none] }) (s.heap.objs.size + 1) s.heap.objs.size 0 .none := by
    have y := Heap.get?_push_size (s.heap.push o) (o := { cls := .type "enumerate", data := .fields #[.none, .bool false, .ref s.heap.objs.size, rawInt 0, .none, .none] }) rfl
    rw [size1] at y
    exact y
  exact ⟨⟨_, isE, rfl⟩, q _ isE (Heap.get?_push_of_some _ (Heap.get?_push_size _ B.free)) fun b o x => Heap.get?_push_of_some _ (Heap.get?_push_of_some _ x)⟩
end
/-- the tuple at a, each item in a new pair with its place -/
def ItT (K : PySem.W.Frag) (a : Addr) : It :=
  ⟨fun i H => ∃ (xs : List V) (x : V), SqT K H a xs ∧ xs[i]? = some x, fun i H v H' => ∃ T x, v = .ref T ∧ H T = none ∧ H' = upd H T (.tup [.int (i : Nat), x]) ∧ ∀ xs, SqT K H a xs → xs[i]? = some x, fun i H => ∃ xs : List V, SqT K H a xs ∧ xs.length = i⟩
theorem turn_T {P : Program} {w : World} {K : PySem.W.Frag} {elts : List Expr} {kk : Nat} {tpos : Pos} (t e it : Addr) (hti : t ≠ it) (hei : e ≠ it) (het : e ≠ t) :
    Turn P w K (.Tuple elts kk tpos) (ItT K t) [e, it] e (fun i h => (∃ old, IsEnum h e it ((i : Nat) : Int) old) ∧ h.IsTupleIter it t i) where
  mem := by simp
  obj := by
    rintro i h ⟨⟨old, he⟩, ⟨o, ho, hc, hd⟩⟩ b hb
    rcases List.mem_cons.mp hb with z | z
    · subst z
      exact ⟨_, he, fun v q => nomatch q⟩
    · have z2 := List.mem_singleton.mp z
      subst z2
      exact ⟨o, ho, fun v q => by rw [hd] at q; cases q⟩
  keep := by
    rintro i h h' ⟨⟨old, he⟩, hi⟩ k
    exact ⟨⟨old, k e (by simp) _ he⟩, hi.at fun o q => k it (by simp) o q⟩
  item := by
    rintro X rfl rfl rfl hc i pins s σ H E I hf ⟨⟨old, he⟩, hit⟩ ⟨xs, x, hq, hx⟩
    obtain ⟨its, rv, tup, hz⟩ := I.tuple hq
    obtain ⟨u, hu, ru⟩ := rv.get hx
    have hel : e < s.heap.objs.size := Heap.lt_size he
    have hil : it < s.heap.objs.size := by
      obtain ⟨_, z, _⟩ := id hit
      exact Heap.lt_size z
    have hlt : i < its.toArray.size := by
      rw [List.size_toArray]
      exact (List.getElem?_eq_some_iff.mp hu).1
    have isT : s.heap.IsTuple t its.toArray := tup
    refine wpAny_pyNext_enum_itemD (Draws.tuple (prog := X.prog) (w := X.w) (A := X.A.in1) (show X.A.in1.handled = none from I.ok.hd hc) it t hti its.toArray) he ⟨hit, isT⟩ hlt hei (by simp [hei, het]) ?_
    rintro y h' tk hy out ⟨hit', _⟩ hT hsz hk
    have ey : y = u := by
      have z : its[i]? = some y := by simpa using hy
      rw [hu] at z
      exact (Option.some.inj z).symm
    subst ey
    refine ⟨_, rfl, wpAny_letOwnedTupleGo_enum (s := { s with heap := h', toks := tk + 1 }) out ?_⟩
    intro h2 he2 sb
    have hT2 : h2.get? s.heap.objs.size = some { cls := .type "tuple", data := .seq #[.int i tk, y] } := (sb.2 _ (Nat.ne_of_gt hel)).trans hT
    have new : ObjOk X.prog X.w (upd H s.heap.objs.size (.tup [.int (i : Nat), x])) h2 s.heap.objs.size (.tup [.int (i : Nat), x]) :=
      ⟨by show 2 ≤ sizeLine; decide, [.int i tk, y], .cons ⟨_, rfl⟩ (.cons ru .nil), ⟨_, hT2, rfl, _, rfl⟩⟩
    have old2 : ∀ b ob, b ∉ [e, it] → s.heap.get? b = some ob → h2.get? b = some ob := by
      intro b ob nb z
      have n1 : b ≠ e := fun q => nb (by simp [q])
      have n2 : b ≠ it := fun q => nb (by simp [q])
      exact (sb.2 b n1).trans (hk b ob n1 n2 z)
    have I1 : Inv X pins σ (upd H s.heap.objs.size (.tup [.int (i : Nat), x])) { s with heap := h2, toks := tk + 1 } := I.turnedNew (ch := [e, it]) old2 hf (Nat.le_refl _) new
    refine ⟨.ref s.heap.objs.size, _, I1, rfl, ⟨_, x, rfl, I.hok.fresh (Nat.le_refl _), rfl, fun ys hy => ?_⟩, ⟨⟨y, ?_⟩, hit'.at fun o z => (sb.2 it (Ne.symm hei)).trans z⟩, fun b hb => ?_⟩
    · rw [I.tuple_inj hy hq]
      exact hx
    · have e1 : ((i + 1 : Nat) : Int) = (i : Int) + 1 := by omega
      rw [e1]
      exact he2
    · have lt : b < s.heap.objs.size := by
        rcases List.mem_cons.mp hb with z | z
        · rw [z]
          exact hel
        · rw [List.mem_singleton.mp z]
          exact hil
      rw [upd_ne (Nat.ne_of_lt lt)]
      exact (hf b hb).1
  done := by
    rintro X rfl rfl rfl hc i pins s σ H E I hf ⟨⟨old, he⟩, hit⟩ ⟨xs, hq, hx⟩
    obtain ⟨its, rv, tup, hz⟩ := I.tuple hq
    obtain ⟨f0, f1, f2, f3, f4, f5⟩ := hf it (by simp)
    have isT : s.heap.IsTuple t its.toArray := tup
    have hsz : its.toArray.size = i := by
      rw [List.size_toArray, ← rv.length]
      exact hx
    refine wpAny_pyNext_enum_endD (Draws.tuple (prog := X.prog) (w := X.w) (A := X.A.in1) (show X.A.in1.handled = none from I.ok.hd hc) it t hti its.toArray) he ⟨by rw [hsz]; exact hit, isT⟩ ?_
    intro h' eb
    exact ⟨rfl, I.turned (t' := s.toks) (fun b o hb z => eb b o hb z) f0 f1 f3 f4 f5⟩
  self := by
    rintro A i s Q E ⟨⟨old, he⟩, _⟩ q
    exact wpAny_pyIter_enum he q
def iEnumT (K : PySem.W.Frag) (ta : TA) : TI := fun σ H R => ta σ H fun vs H1 => ∃ a xs, vs = [.ref a] ∧ SqT K H1 a xs ∧ R (ItT K a) H1
theorem pi_enumT {X : Cx} {e : Expr} {ta : TA} {p pos tpos : Pos} {elts : List Expr} {kk : Nat} (hg : Gl X "enumerate") (hm : X.mg "enumerate" = none) (ha : PA X [e] ta) (hs : starEach [e] X.env = [(false, eval e X.env)] := by rfl) :
    PI X (.Tuple elts kk tpos) (.Call (.Name "enumerate" p) [e] [] pos) (iEnumT X.K ta) := by
  refine ⟨fun pins s σ H R I want => ?_⟩
  refine Call_ (ld_blt I hg hm boot_enumerate (PyProof.Rows.callWith_type1 (thn (ha.run pos pins s σ H _ I want) ?_) hs rfl))
  rintro us s1 ⟨vs, H1, I1, r1, t, xs, rfl, hq, want1⟩
  obtain ⟨u, rfl, ru⟩ := vals1 r1
  cases ru
  obtain ⟨its, rv, tup, hz⟩ := I1.tuple hq
  have isT : s1.heap.IsTuple t its.toArray := tup
  have tl : t < s1.heap.objs.size := by
    obtain ⟨o, z, _⟩ := id isT
    exact Heap.lt_size z
  refine enum1_begins (begins_tuple t its.toArray) isT ?_
  intro h' he hit hk
  refine wpAny_pyIter_enum he ?_
  have I2 : Inv X pins σ H1 { s1 with heap := h' } := I1.kept (t' := s1.toks) hk
  refine ⟨s1.heap.objs.size + 1, [s1.heap.objs.size + 1, s1.heap.objs.size], _, _, H1, rfl, I2, turn_T t (s1.heap.objs.size + 1) s1.heap.objs.size (Nat.ne_of_lt tl) (Nat.succ_ne_self _) (Nat.ne_of_gt (Nat.lt_succ_of_lt tl)), ⟨⟨.none, he⟩, ⟨_, hit, rfl, rfl⟩⟩, fun b hb => ?_, want1⟩
  have le : s1.heap.objs.size ≤ b := by
    rcases List.mem_cons.mp hb with z | z
    · rw [z]
      exact Nat.le_add_right _ _
    · rw [List.mem_singleton.mp z]
      exact Nat.le_refl _
  exact I1.fpOk le (I1.hok.fresh le)
section
variable {X : Cx}
/-- t == (), t any tuple -/
theorem op_eqNil (hu : X.A.units < cLine) : OpR X (compareOp .Eq) (fun x y H Q => ∃ a b xs, x = .ref a ∧ y = .ref b ∧ SqT X.K H a xs ∧ SqT X.K H b [] ∧ Q (.bl xs.isEmpty) H) := by
  intro pins s σ H x y v u Q I rx ry want
  obtain ⟨a, b, xs, rfl, rfl, ha, hb, q⟩ := want
  cases rx
  cases ry
  obtain ⟨its, rv, t1, _⟩ := I.tuple ha
  obtain ⟨its2, rv2, t2, _⟩ := I.tuple hb
  cases rv2
  have i1 : s.heap.IsTuple a its.toArray := t1
  have i2 : s.heap.IsTuple b ([] : List Value).toArray := t2
  have rc := PySem.SeqAt.RcAt.tuples (A := X.A) (e := fun _ => true) i1 i2 hu (fun j _ h2 => absurd h2 (by simp))
  refine rc X.prog X.w X.xe _ ⟨.bl xs.isEmpty, H, I, ?_, q⟩
  cases rv with
  | nil => rfl
  | cons _ _ => rfl
end
end Gd
/-! t[::-1] of a tuple -/
namespace Gd
open PySem PySem.Spec PyProof.Rows L2
section
variable {prog : Program} {w : World} {A : Around} {E : Value → Shared → Prop} {s : Shared}
theorem applied_back {sl : Addr} {vl vu : Value} {tk : Tok} {n : Nat} {Q : Int × Int × Nat → Shared → Prop} (hs : s.heap.IsSliceOf sl vl vu (.int (-1) tk)) (pl : IsPart vl none) (pu : IsPart vu none)
    (q : Q ((n : Int) - 1, -1, n) s) : wpAny (model prog w) A (Builtin.Slice.sliceApplied (.ref sl) (pure (n : Int))) Q E s := by
  obtain ⟨o, ho, hc, hd⟩ := id hs
  unfold Builtin.Slice.sliceApplied Builtin.Slice.sliceFields
  refine wpAny_bind (wpAny_bind (wpAny_field ho hd (x := vl) rfl ?_))
  refine wpAny_bind (wpAny_field ho hd (x := vu) rfl ?_)
  refine wpAny_bind (wpAny_field ho hd (x := .int (-1) tk) rfl (wpAny_pure ?_))
  refine wpAny_bind (HT.slicePart_ (IsPart.int (-1) tk) ?_)
  show wpAny _ _ (if ((-1 : Int) == 0) = true then _ else _) _ _ s
  rw [if_neg (by decide)]
  refine wpAny_bind (HT.slicePart_ pl ?_)
  refine wpAny_bind (HT.slicePart_ pu ?_)
  refine wpAny_bind (wpAny_pure ?_)
  have adj : Builtin.Slice.sliceAdjust none none (-1) (n : Int) = ((n : Int) - 1, -1) := by
    unfold Builtin.Slice.sliceAdjust
    simp
  have plc : Builtin.Slice.slicePlaces ((n : Int) - 1) (-1) (-1) = n := by
    unfold Builtin.Slice.slicePlaces
    have z1 : ¬ ((-1 : Int) > 0) := by decide
    simp only [z1, if_false, show (- -1 : Int) = 1 by decide, Int.ediv_one]
    split <;> omega
  show wpAny _ _ (match Builtin.Slice.sliceAdjust none none (-1) (n : Int) with | (lo, hi) => pure (lo, (-1 : Int), Builtin.Slice.slicePlaces lo hi (-1))) _ _ s
  rw [adj]
  show wpAny _ _ (pure ((n : Int) - 1, (-1 : Int), Builtin.Slice.slicePlaces ((n : Int) - 1) (-1) (-1))) _ _ s
  rw [plc]
  exact wpAny_pure q
theorem pick_back (xs : Array Value) : ((List.range xs.size).filterMap fun (m : Nat) => xs[(((xs.size : Nat) : Int) - 1 + (m : Int) * (-1)).toNat]?).toArray = xs.toList.reverse.toArray := by
  congr 1
  have e : (List.range xs.size).filterMap (fun (m : Nat) => xs[(((xs.size : Nat) : Int) - 1 + (m : Int) * (-1)).toNat]?) = ((List.range xs.size).map (fun k => xs.size - 1 - k)).filterMap (xs[·]?) := by
    rw [List.filterMap_map]
    congr 1
    funext m
    show xs[_]? = xs[_]?
    congr 1
    dsimp only
    omega
  rw [e, PySem.W.krv_range, List.filterMap_reverse, PySem.W.krv_all]
theorem getItem_back {t sl : Addr} {items : Array Value} {vl vu : Value} {tk : Tok} {Q : Value → Shared → Prop} (ht : IsTup s.heap t items) (hs : s.heap.IsSliceOf sl vl vu (.int (-1) tk)) (pl : IsPart vl none) (pu : IsPart vu none)
    (q : Q (.ref s.heap.objs.size) { s with heap := s.heap.push { cls := .type "tuple", data := .seq items.toList.reverse.toArray } }) (sz : items.size ≤ sizeLine) : wpAny (model prog w) A (getItem (.ref t) (.ref sl)) Q E s := by
  have fits : sizeOk (.seq items.toList.reverse.toArray) := by
    show items.toList.reverse.toArray.size ≤ sizeLine
    rw [List.size_toArray, List.length_reverse, Array.length_toList]
    exact sz
  obtain ⟨o, ho, hc, hd⟩ := id hs
  have isS : s.TypeIs (.ref sl) "slice" := ⟨o, ho, hc⟩
  unfold getItem
  try with_reducible refine wpAny_holding ?_
  first | refine wpAny_bind (wpAny_pure ?_) | skip
  refine wpAny_bind (wpAny_sequenceKey ht.typeIs (by decide) ?_)
  refine wpAny_bind (wpAny_callSpecial?_slot (name := Str.ofString "__getitem__") ht.typeIs PyProof.Rows.slot_tuple_getitem
    (wpAny_call_entry PyProof.Rows.slot_tuple_getitem ht.typeIs entry_tuple_getitem ?_ (args_tuple_getitem _ _)))
  show wpAny _ _ (Builtin.Tuple.tupleItemsOf (.ref t) >>= _) _ _ s
  refine wpAny_bind (tupleItemsOf_ ht ?_)
  refine wpAny_bind (wpAny_typeOf isS ?_)
  rw [if_pos (by decide)]
  refine wpAny_bind (applied_back hs pl pu ?_)
  have no : ¬ ((((items.size : Int) - 1 == 0) && (-1 : Int) == 1 && (items.size == items.size)) = true) := by
    intro z
    rw [Bool.and_eq_true, Bool.and_eq_true] at z
    exact absurd z.1.2 (by decide)
  show wpAny _ _ (if (((items.size : Int) - 1 == 0) && (-1 : Int) == 1 && (items.size == items.size)) = true then _ else _) _ _ s
  rw [if_neg no, pick_back]
  first
    | exact wpAny_bind (m := Builtin.Tuple.tupleExact _) (wpAny_newObj_type (wpAny_pure ⟨_, rfl, wpAny_pure q⟩) fits)
    | exact wpAny_bind (m := Builtin.Tuple.tupleExact _) (wpAny_newObj_type (wpAny_bind (wpAny_pure (wpAny_pure ⟨_, rfl, wpAny_pure q⟩))) fits)
    | exact wpAny_bind (wpAny_bind (m := Builtin.Tuple.tupleExact _) (wpAny_newObj_type (wpAny_pure (wpAny_pure ⟨_, rfl, wpAny_pure q⟩)) fits))
    | exact wpAny_bind (wpAny_bind (m := Builtin.Tuple.tupleExact _) (wpAny_newObj_type (wpAny_pure ⟨_, rfl, wpAny_pure q⟩) fits))
end
section
variable {X : Cx}
def tBack (K : PySem.W.Frag) (te : TE) : TE := fun σ H Q => te σ H fun x H1 => ∃ a xs, x = .ref a ∧ SqT K H1 a xs ∧ ∀ p, H1 p = none → Q (.ref p) (upd H1 p (.tup xs.reverse))
theorem pe_back {e : Expr} {te : TE} {k : Nat} {p1 p2 p3 pos : Pos} (he : PE X e te) : PE X (.Subscript e (.Slice none none (some (.UnaryOp .USub (.Constant (.int 1) k p1) p2)) p3) pos) (tBack X.K te) := by
  refine ⟨fun pins s σ H Q I want => ?_⟩
  refine Subscript_ (thn (he.run pins s σ H _ I want) ?_)
  rintro v s1 ⟨x, H1, I1, r1, a, xs, rfl, hx, want1⟩
  cases r1
  refine wpAny_Slice (thn (po_none.run pins s1 σ H1 (fun o G => o = none ∧ G = H1) I1 ⟨rfl, rfl⟩) ?_)
  rintro vl s2 ⟨l, G2, I2, pl, rfl, rfl⟩
  refine thn (po_none.run pins s2 σ G2 (fun o G => o = none ∧ G = G2) I2 ⟨rfl, rfl⟩) ?_
  rintro vu s3 ⟨u, G3, I3, pu, rfl, rfl⟩
  have hst : PE X (.UnaryOp .USub (.Constant (.int 1) k p1) p2) (tUn (rU fun i => .int (-i)) (tC (.int 1))) := pe_un un_neg pe_int
  rw [evalPart_some]
  refine thn (hst.run pins s3 σ G3 (fun y G => y = .int (-1) ∧ G = G3) I3 ⟨1, rfl, rfl, rfl⟩) ?_
  rintro vs s4 ⟨y, H4, I4, ry, rfl, rfl⟩
  obtain ⟨tk, rfl⟩ := ry
  have I5 : Inv X pins σ H4 { s4 with heap := s4.heap.push { cls := .type "slice", data := .fields #[vl, vu, .int (-1) tk] } } := I4.kept (t' := s4.toks) fun b ob z => Heap.get?_push_of_some _ z
  obtain ⟨its, r, ht, hz⟩ := I5.tuple hx
  have hlen := r.length
  refine tail_any (ops := [.ref a, .ref s4.heap.objs.size]) ht.typeIs (PyProof.Rows.slot_tuple_getitem.lookup) ?_ (by with_unfolding_all rfl)
  refine getItem_back ht (Heap.IsSliceOf.new _ vl vu _) pl pu ?_ (by rw [List.size_toArray]; omega)
  refine ⟨.ref _, _, I5.laid (t' := s4.toks) (o := .tup xs.reverse) (fun b ob z => Heap.get?_push_of_some _ z) (Nat.le_refl _) ?_, rfl, want1 _ (I5.hok.fresh (Nat.le_refl _))⟩
  exact ⟨by rw [List.length_reverse]; exact hz, _, r.reverse, ⟨_, Heap.get?_push_size _ rfl, rfl, _, rfl⟩⟩
end
end Gd
namespace Lw
open PySem PySem.Spec PyProof.Rows L2 Gd
/-- a small piece of data -/
structure Small (k : Nat) (d : PyData) : Prop where
  sh : d.showable = true
  lv : d.leavesShort 100 = true
  wt : d.weight ≤ k
  dp : d.depth ≤ 1
def It (av : Addr → Prop) (H : Hp) (v : V) : Prop := ∃ d, Dv av H v d ∧ Small 200 d
theorem It.keep {av : Addr → Prop} {H H' : Hp} {v : V} (x : It av H v) (k : Kp av H H') : It av H' v := by
  obtain ⟨d, h, s⟩ := x
  exact ⟨d, h.keep k, s⟩
theorem len_int {i : Int} (h : i.natAbs < 10 ^ 30) : (Str.ofString (toString i)).length ≤ 100 := by
  have e := int_text_length_le10 (k := 30) (by decide) h
  rw [PySem.ofString_length]
  omega
theorem It.int {av : Addr → Prop} {H : Hp} {i : Int} (h : i.natAbs < 10 ^ 30) : It av H (.int i) := by
  have e : i.natAbs.log2 < 100 := by
    by_cases z : i.natAbs = 0
    · rw [z]
      decide
    · exact (Nat.log2_lt z).mpr (Nat.lt_of_lt_of_le h (by decide))
  refine ⟨.int i, .int i, ?_, ?_, ?_, ?_⟩
  · rw [PyData.showable]
    exact decide_eq_true (by omega)
  · rw [PyData.leavesShort]
    refine decide_eq_true ?_
    rw [PyData.shown_int]
    exact len_int h
  · rw [PyData.weight]
    split <;> omega
  · rw [PyData.depth]
    omega
theorem paired_ix {α β : Type} {R : α → β → Prop} {xs : List α} {ds : List β} (h : Paired R xs ds) : ∀ (i : Nat) (x : α) (d : β), xs[i]? = some x → ds[i]? = some d → R x d := by
  induction h with
  | nil => intro i x d h1 h2; simp at h1
  | cons r _ ih =>
    intro i x d h1 h2
    cases i with
    | zero =>
      cases h1
      cases h2
      exact r
    | succ i => exact ih i x d h1 h2
theorem It.tup {av : Addr → Prop} {H : Hp} {p : Addr} {xs : List V} {ds : List PyData} (e : H p = some (.tup xs)) (n : ¬ av p) (h : Paired (Dv av H) xs ds) (s : Small 200 (.tuple ds)) : It av H (.ref p) :=
  ⟨_, .tup e n (Paired.length h) (paired_ix h), s⟩
theorem It.lst {av : Addr → Prop} {H : Hp} {p : Addr} {xs : List V} {ds : List PyData} (e : H p = some (.lst xs)) (n : ¬ av p) (h : Paired (Dv av H) xs ds) (s : Small 200 (.list ds)) : It av H (.ref p) :=
  ⟨_, .lst e n (Paired.length h) (paired_ix h), s⟩
end Lw
namespace Lw
open PySem PySem.Spec PyProof.Rows L2 Gd
abbrev sRow : Stmt := topS 24
abbrev rowN : List Str := ["_law_stream_here", "_law_most", "_law_size", "_law_way", "_law_width", "_law_entries", "_law_place", "_law_k", "_law_entry"]
theorem scRow : FnScope rowN ["_law_stream_here", "_law_most"] (defScope sRow) := ⟨rfl, rfl, rfl, by decide +kernel, rfl, by decide +kernel, by decide +kernel⟩
def spRow : Sp := fun vs H Q _ => ∃ (s a b : Addr) (n : Nat) (m : Int), vs = [.ref s, .int m] ∧ Sm H s a b n ∧ n < 900000 ∧ 1 ≤ m ∧ m ≤ 12 ∧
  ∀ H' p (ns : List Int), Kp (Av s a) H H' → Sm H' s a b (n + 50) → H p = none → H' p = some (.tup (ns.map V.int)) → 1 ≤ ns.length → (ns.length : Int) ≤ m → (∀ x ∈ ns, -1000000000 ≤ x ∧ x ≤ 1000000000) → Q (.ref p) H'
theorem Sm.nav {H : Hp} {s a b p : Addr} {n : Nat} (x : Sm H s a b n) (z : H p = none) : ¬ Av s a p := fun y => by
  obtain ⟨⟨_, _, _, z1, z2, _⟩, _⟩ := id x
  rcases y with y | y
  · rw [y, z1] at z
    cases z
  · rw [y, z2] at z
    cases z
/-- a new list of drawn entries, so far -/
def PvE (s a b : Addr) (H0 : Hp) (D : Addr) (n0 i : Nat) (H1 : Hp) : Prop := Kp (Av s a) H0 H1 ∧ Sm H1 s a b (n0 + i) ∧ ∃ es : List Int, H1 D = some (.lst (es.map V.int)) ∧ es.length = i ∧ ∀ x ∈ es, -1000000000 ≤ x ∧ x ≤ 1000000000
theorem sm_upd {H : Hp} {s a b D : Addr} {n : Nat} {o : HO} (sm : Sm H s a b n) (h1 : D ≠ s) (h2 : D ≠ a) (h3 : D ≠ b) : Sm (upd H D o) s a b n := by
  obtain ⟨⟨t, bigs, cells, z1, z2, z3, r⟩, p1, p2, p3⟩ := sm
  exact ⟨⟨t, bigs, cells, by rw [upd_ne (Ne.symm h1)]; exact z1, by rw [upd_ne (Ne.symm h2)]; exact z2, by rw [upd_ne (Ne.symm h3)]; exact z3, r⟩, p1, p2, p3⟩
theorem Sm.off {H : Hp} {s a b p : Addr} {n : Nat} (x : Sm H s a b n) (z : H p = none) : p ≠ s ∧ p ≠ a ∧ p ≠ b := by
  obtain ⟨⟨_, _, _, z1, z2, z3, _⟩, _⟩ := id x
  exact ⟨fun y => (by rw [y, z1] at z; cases z), fun y => (by rw [y, z2] at z; cases z), fun y => (by rw [y, z3] at z; cases z)⟩
theorem pv_start {s a b D : Addr} {H1 : Hp} {n0 : Nat} (nD : H1 D = none) (sm : Sm H1 s a b n0) : PvE s a b H1 D n0 0 (upd H1 D (.lst [])) :=
  ⟨Kp.of_same (same_upd nD), sm.keep (same_upd nD), [], upd_same, rfl, fun _ z => nomatch z⟩
theorem pv_step {s a b D : Addr} {H1 H2 H' : Hp} {n0 i : Nat} {r : Int} (nD : H1 D = none) (sm : Sm H1 s a b n0) (hi : i < 1000) (p : PvE s a b H1 D n0 i H2) (kp : Kp (Av s a) H2 H') (sm' : Sm H' s a b (n0 + i + 1)) (r0 : -1000000000 ≤ r) (r1 : r ≤ 1000000000) :
    ∃ acc, H' D = some (.lst acc) ∧ acc.length < sizeLine ∧ PvE s a b H1 D n0 (i + 1) (upd H' D (.lst (acc ++ [.int r]))) := by
  obtain ⟨k2, _, es, hD, hl, hb⟩ := p
  have nav := sm.nav nD
  obtain ⟨o1, o2, o3⟩ := sm.off nD
  refine ⟨_, kp _ _ hD nav, by rw [List.length_map]; exact small_of (by omega), fun b' o z nz => ?_, sm_upd sm' o1 o2 o3, es ++ [r], ?_, ?_, fun x hx => ?_⟩
  · rw [upd_ne (ne_of_none z nD)]
    exact kp _ _ (k2 _ _ z nz) nz
  · rw [upd_same, List.map_append]
    rfl
  · rw [List.length_append, hl]
    rfl
  · rcases List.mem_append.mp hx with hx | hx
    · exact hb x hx
    · rw [List.mem_singleton.mp hx]
      exact ⟨r0, r1⟩
theorem wipe_back {σ : L2.St} {v : Nat} {x : Option V} : wipe ((wipe σ [v]).set v x) [v] = wipe σ [v] := by
  show ((σ.set v none).set v x).set v none = σ.set v none
  rw [List.set_set, List.set_set]
theorem lc_rows {s a b D : Addr} {n0 N v : Nat} {σ : L2.St} {H1 : Hp} {te : TE} {Qd : Hp → Prop} (nD : H1 D = none) (sm : Sm H1 s a b n0) (hN : N ≤ 1000)
    (he : ∀ (i : Nat) (H2 : Hp) (Q' : VK), i < N → Kp (Av s a) H1 H2 → Sm H2 s a b (n0 + i) → (∀ H' r, Kp (Av s a) H2 H' → Sm H' s a b (n0 + i + 1) → -1000000000 ≤ r → r ≤ 1000000000 → Q' (.int r) H') → te ((wipe σ [v]).set v (some (.int (0 + i)))) H2 Q')
    (hd : ∀ H3 (es : List Int), Kp (Av s a) H1 H3 → Sm H3 s a b (n0 + N) → H3 D = some (.lst (es.map V.int)) → es.length = N → (∀ x ∈ es, -1000000000 ≤ x ∧ x ≤ 1000000000) → Qd H3) :
    ∃ W : Nat → Nat → Hp → Prop, (∃ m, W 0 m (upd H1 D (.lst []))) ∧ ∀ i m H, W i m H →
      ((Itr 0 N).stop i H ∧ Qd H) ∨ ((Itr 0 N).go i H ∧ ∃ Nx : Hp → Prop, (∀ H', Nx H' → ∃ m', m' < m ∧ W (i + 1) m' H') ∧ ∀ x H', (Itr 0 N).yld i H x H' → gName v x (wipe σ [v]) H' fun σ2 H2 => wipe σ2 [v] = wipe σ [v] ∧ tYes σ2 H2 fun b H3 =>
        if b = true then te σ2 H3 fun y H4 => ∃ acc, H4 D = some (.lst acc) ∧ acc.length < sizeLine ∧ Nx (upd H4 D (.lst (acc ++ [y]))) else Nx H3) := by
  refine lc_range (PvE s a b H1 D n0) (pv_start nD sm) (fun i H2 hi p => ⟨wipe_back, ?_⟩) (fun H3 p => ?_)
  · refine iteT (B := PvE s a b H1 D n0 (i + 1) H2) (he i H2 _ hi p.1 p.2.1 fun H' r kp sm' r0 r1 => ?_)
    exact pv_step nD sm (by omega) p kp sm' r0 r1
  · obtain ⟨k3, sm3, es, hD, hl, hb⟩ := p
    exact hd H3 es k3 sm3 hD hl hb
theorem lc_rowsL {K : PySem.W.Frag} {s a b D L : Addr} {n0 v : Nat} {σ : L2.St} {H1 : Hp} {te : TE} {Qd : Hp → Prop} {xs : List Int} (nD : H1 D = none) (sm : Sm H1 s a b n0) (hN : xs.length ≤ 1000) (hL : H1 L = some (.lst (xs.map V.int))) (nL : ¬ Av s a L)
    (he : ∀ (i : Nat) (x : Int) (H2 : Hp) (Q' : VK), xs[i]? = some x → Kp (Av s a) H1 H2 → Sm H2 s a b (n0 + i) → (∀ H' r, Kp (Av s a) H2 H' → Sm H' s a b (n0 + i + 1) → -1000000000 ≤ r → r ≤ 1000000000 → Q' (.int r) H') → te ((wipe σ [v]).set v (some (.int x))) H2 Q')
    (hd : ∀ H3 (es : List Int), Kp (Av s a) H1 H3 → Sm H3 s a b (n0 + xs.length) → H3 D = some (.lst (es.map V.int)) → es.length = xs.length → (∀ x ∈ es, -1000000000 ≤ x ∧ x ≤ 1000000000) → Qd H3) :
    ∃ W : Nat → Nat → Hp → Prop, (∃ m, W 0 m (upd H1 D (.lst []))) ∧ ∀ i m H, W i m H →
      ((Itl K L).stop i H ∧ Qd H) ∨ ((Itl K L).go i H ∧ ∃ Nx : Hp → Prop, (∀ H', Nx H' → ∃ m', m' < m ∧ W (i + 1) m' H') ∧ ∀ x H', (Itl K L).yld i H x H' → gName v x (wipe σ [v]) H' fun σ2 H2 => wipe σ2 [v] = wipe σ [v] ∧ tYes σ2 H2 fun b H3 =>
        if b = true then te σ2 H3 fun y H4 => ∃ acc, H4 D = some (.lst acc) ∧ acc.length < sizeLine ∧ Nx (upd H4 D (.lst (acc ++ [y]))) else Nx H3) := by
  refine lc_list (xs := xs.map V.int) (PvE s a b H1 D n0) (pv_start nD sm) (fun i H2 _ p => .inl (.inl (p.1 _ _ hL nL))) (fun i x H2 hx p => ⟨wipe_back, ?_⟩) (fun H3 p => ?_)
  · obtain ⟨z, hz, rfl⟩ := getm hx
    have hi : i < xs.length := (List.getElem?_eq_some_iff.mp hz).1
    refine iteT (B := PvE s a b H1 D n0 (i + 1) H2) (he i z H2 _ hz p.1 p.2.1 fun H' r kp sm' r0 r1 => ?_)
    exact pv_step nD sm (by omega) p kp sm' r0 r1
  · obtain ⟨k3, sm3, es, hD, hl, hb⟩ := p
    rw [List.length_map] at sm3 hl
    exact hd H3 es k3 sm3 hD hl hb
section
variable {P : Program} {w : World} {K : PySem.W.Frag} {mg : Str → Option Value} {base : Heap}
theorem ok_row {f fD : Addr} {fd fdD : FuncData} {k : Nat} (F : Fun K "_law_row" "_law_row" sRow f fd) (GD : FnOk P w K mg base CX0 k fD fdD ["_law_stream_here", "_law_many"] spDraw) (FD : Fun K "_law_draw" "_law_draw" sDraw fD fdD)
    (bD : Binds K fdD ["_law_stream_here", "_law_many"] []) (gD : mg "_law_draw" = some (.ref fD)) (mr : mg "range" = none) (mso : mg "sorted" = none) (mtu : mg "tuple" = none) : FnOk P w K mg base CX0 (k + 1) f fd ["_law_stream_here", "_law_most"] spRow := by
  refine F.ok scRow (fun vs H Q E h => ?_) (fun cdv A outer st H vs Q E hr h => ?_)
  · obtain ⟨s, a, b, n, m, rfl, _⟩ := h
    rfl
  · obtain ⟨s, a, b, n, m, rfl, sm, hn, m1, m12, q⟩ := h
    refine ⟨_, pss_cons (ps_asg (pe_tup (pa_cons (pe_op op_add pe_int (pe_call GD hr (by rfl) gD FD.kp bD .nil pass0 (pa_cons (pv 0) (pa_cons (pv 1) pa_nil)))) (pa_cons (pe_call GD hr (by rfl) gD FD.kp bD .nil pass0 (pa_cons (pv 0) (pa_cons pe_int pa_nil))) pa_nil)))
        (pg_tup rfl (pgs_cons (pg_name (i := 2) scRow.nd rfl (.inr rfl)) (pgs_cons (pg_name (i := 3) scRow.nd rfl (.inl rfl)) pgs_nil))))
      (pss_cons (ps_set (i := 4) scRow.nd rfl (.inr rfl) (pe_ix ix_list (pe_lst (pa_cons pe_int (pa_cons pe_int (pa_cons pe_int (pa_cons pe_int (pa_cons pe_int (pa_cons (pe_op op_pow pe_int pe_int) pa_nil))))))) (pv 3) (fun _ _ => rfl)))
      (pss_cons (ps_setLc (i := 5) (own := [("_law_place", 6)]) (g := gName 6) (tt := tYes) rfl scRow.nd rfl rfl (sw_true rfl rfl rfl (by decide +kernel)) (pi_range1 (by rfl) mr (pa_cons (pv 2) pa_nil))
        (blkOk_by (N := rowN) (sc := defScope sRow) (by decide +kernel)) (fun _ _ _ _ _ => pg_name (i := 6) scRow.nd rfl (Or.inl rfl)) (fun _ _ _ _ _ => pts_nil)
        (fun _ _ _ _ _ => pe_call GD hr (by rfl) gD FD.kp bD .nil pass0 (pa_cons (pv 0) (pa_cons (pv 4) pa_nil))))
      (pss_cons (ps_if (pt_cmpR op_eq (pv 3) pe_int (nomark _))
        (pss_one (ps_setLc (i := 5) (own := [("_law_k", 7)]) (g := gName 7) (tt := tYes) rfl scRow.nd rfl rfl (sw_true rfl rfl rfl (by decide +kernel)) (pi_range1 (by rfl) mr (pa_cons (pv 2) pa_nil))
          (blkOk_by (N := rowN) (sc := defScope sRow) (by decide +kernel)) (fun _ _ _ _ _ => pg_name (i := 7) scRow.nd rfl (Or.inl rfl)) (fun _ _ _ _ _ => pts_nil)
          (fun _ _ _ _ _ => pe_ix (r := rIxL K) ix_list (pe_lst (pa_cons (pv 7) (pa_cons (pe_op op_sub (pv 2) (pv 7)) (pa_cons pe_int pa_nil)))) (pe_call GD hr (by rfl) gD FD.kp bD .nil pass0 (pa_cons (pv 0) (pa_cons pe_int pa_nil))) (fun _ _ => rfl)))) pss_nil)
      (pss_cons (ps_if (pt_cmpR op_eq (pv 3) pe_int (nomark _))
        (pss_one (ps_setLc (i := 5) (own := [("_law_entry", 8)]) (g := gName 8) (tt := tYes) rfl scRow.nd rfl rfl (sw_true rfl rfl rfl (by decide +kernel)) (pi_list (pv 5))
          (blkOk_by (N := rowN) (sc := defScope sRow) (by decide +kernel)) (fun _ _ _ _ _ => pg_name (i := 8) scRow.nd rfl (Or.inl rfl)) (fun _ _ _ _ _ => pts_nil)
          (fun _ _ _ _ _ => pe_ix (r := rIxL K) ix_list (pe_lst (pa_cons (pv 8) (pa_cons (pe_op op_sub pe_int (pv 8)) (pa_cons (pe_op op_pow pe_int pe_int) (pa_cons (pe_op op_sub pe_int (pe_op op_pow pe_int pe_int)) pa_nil)))))
            (pe_call GD hr (by rfl) gD FD.kp bD .nil pass0 (pa_cons (pv 0) (pa_cons pe_int pa_nil))) (fun _ _ => rfl)))) pss_nil)
      (pss_cons (ps_if (PW.pt (pw_and (pt_cmpR op_eq (pv 3) pe_int (nomark _)) (pw_and1 (pt_cmpR op_eq (pe_call GD hr (by rfl) gD FD.kp bD .nil pass0 (pa_cons (pv 0) (pa_cons pe_int pa_nil))) pe_int (nomark _)))))
        (pss_one (ps_set (i := 5) scRow.nd rfl (.inl rfl) (pe_step (pe_callB cr_sortedI (by rfl) mso (by decide +kernel) (pa_cons (pv 5) pa_nil))
          (pe_ix ix_list (pe_lst (pa_cons pe_int (pa_cons (pe_un un_neg pe_int) pa_nil))) (pe_call GD hr (by rfl) gD FD.kp bD .nil pass0 (pa_cons (pv 0) (pa_cons pe_int pa_nil))) (fun _ _ => rfl))))) pss_nil)
      (pss_one (ps_ret (pe_callTy call_tuple_of (by rfl) mtu (by decide +kernel) (pa_cons (pv 5) pa_nil))))))))), ?_⟩
    -- _law_size, _law_way
    refine ⟨.ref s, rfl, .int m, rfl, s, a, b, n, m, rfl, sm, by omega, by omega, by omega, fun H1 r1 k1 sm1 r10 r11 => ⟨1, r1, rfl, rfl, .ref s, rfl, s, a, b, n + 1, 6, rfl, sm1, by omega, by decide, by decide, fun H2 r2 k2 sm2 r20 r21 => ⟨by show 2 ≤ sizeLine; decide, fun t nt => ?_⟩⟩⟩
    refine ⟨t, _, rfl, .inl (.inl upd_same), rfl, _, _, rfl, _, _, rfl, rfl, ?_⟩
    have s3 := same_upd (o := .tup [.int (1 + r1), .int r2]) nt
    have k3 := (k1.trans k2).trans (Kp.of_same s3)
    have sm3 := sm2.keep s3
    generalize upd H2 t (.tup [.int (1 + r1), .int r2]) = H3 at *
    dsimp only
    obtain ⟨N, hN⟩ : ∃ N : Nat, 1 + r1 = (N : Int) := ⟨(1 + r1).toNat, by omega⟩
    rw [hN]
    have N1 : 1 ≤ N := by omega
    have N2 : (N : Int) ≤ m := by omega
    -- _law_width
    refine ⟨10, 9, rfl, rfl, ⟨by decide, by decide, by decide⟩, by show 6 ≤ sizeLine; decide, fun p np => ?_⟩
    have s4 := same_upd (o := .lst [.int 2, .int 3, .int 6, .int 40, .int 3, .int (10 ^ (9 : Int).toNat)]) np
    obtain ⟨wv, hat, w0, w1⟩ : ∃ wv : Int, atI ([.int 2, .int 3, .int 6, .int 40, .int 3, .int (10 ^ (9 : Int).toNat)] : List V) r2 = some (.int wv) ∧ 0 < wv ∧ wv ≤ 1000000000 := by
      obtain ⟨j, rfl⟩ : ∃ j : Nat, r2 = (j : Int) := ⟨r2.toNat, by omega⟩
      have hj : j < 6 := by omega
      match j, hj with
      | 0, _ => exact ⟨2, rfl, by decide, by decide⟩
      | 1, _ => exact ⟨3, rfl, by decide, by decide⟩
      | 2, _ => exact ⟨6, rfl, by decide, by decide⟩
      | 3, _ => exact ⟨40, rfl, by decide, by decide⟩
      | 4, _ => exact ⟨3, rfl, by decide, by decide⟩
      | 5, _ => exact ⟨1000000000, by decide +kernel, by decide, by decide⟩
    refine ⟨.int r2, rfl, p, _, r2, .int wv, rfl, rfl, .inl (.inl upd_same), hat, ?_⟩
    have k4 := k3.trans (Kp.of_same s4)
    have sm4 := sm3.keep s4
    clear hat
    dsimp only
    generalize upd H3 p (.lst [.int 2, .int 3, .int 6, .int 40, .int 3, .int (10 ^ (9 : Int).toNat)]) = H4 at *
    -- _law_entries, drawn
    refine ⟨.int N, rfl, N, rfl, by omega, by omega, fun D nD => lc_rows (s := s) (a := a) (b := b) (n0 := n + 2) nD sm4 (by show (N : Int).toNat ≤ 1000; omega) (fun i H5 Q' hi k5 sm5 q5 => ?_) (fun H5 es k5 sm5 hD hl hb => ?_)⟩
    · exact ⟨.ref s, rfl, .int wv, rfl, s, a, b, _, wv, rfl, sm5, by omega, w0, (by omega), fun H' r kp sm' r0 r1 => q5 H' r kp sm' (by omega) (by omega)⟩
    rw [Int.toNat_natCast] at sm5 hl
    have nvD : ¬ Av s a D := sm4.nav nD
    have k6 := k4.trans k5
    have fin : ∀ (H7 : Hp) (L : Addr) (zs : List Int) (n7 : Nat), Kp (Av s a) H H7 → Sm H7 s a b n7 → n7 ≤ n + 50 → H7 L = some (.lst (zs.map V.int)) → zs.length = N → (∀ x ∈ zs, -1000000000 ≤ x ∧ x ≤ 1000000000) →
        SqL K H7 L (zs.map V.int) ∧ ∀ l, H7 l = none → Q (.ref l) (upd H7 l (.tup (zs.map V.int))) := by
      intro H7 L zs n7 k7 sm7 hn7 hL hz hbz
      refine ⟨.inl (.inl hL), fun l nl => ?_⟩
      refine q _ l zs (k7.trans (Kp.of_same (same_upd nl))) ((sm7.keep (same_upd nl)).mono hn7) ?_ upd_same (by omega) (by omega) hbz
      cases e0 : H l with
      | none => rfl
      | some u =>
        rw [k7 l u e0 (sm7.nav nl)] at nl
        cases nl
    -- if _law_way == 4
    refine ⟨.int r2, rfl, rfl, _, rfl, ite2 (fun e4 => ?_) (fun e4 => ?_)⟩
    · have e4' : r2 = 4 := V.int.inj (of_decide_eq_true e4)
      subst e4'
      refine ⟨.int N, rfl, N, rfl, by omega, by omega, fun D2 nD2 => lc_rows (s := s) (a := a) (b := b) (n0 := n + 2 + N) nD2 sm5 (by show (N : Int).toNat ≤ 1000; omega) (fun i H6 Q' hi k7 sm7 q7 => ?_) (fun H7 zs k7 sm7 hD2 hz hbz => ?_)⟩
      · refine ⟨.int (0 + i), rfl, .int N, rfl, .int (0 + i), rfl, N, 0 + i, rfl, rfl, by show 3 ≤ sizeLine; decide, fun p2 np2 => ?_⟩
        have s8 := same_upd (o := .lst [.int (0 + i), .int (N - (0 + i)), .int 0]) np2
        refine ⟨.ref s, rfl, s, a, b, _, 3, rfl, sm7.keep s8, by omega, by decide, by decide, fun H' r kp sm' r0 r1 => ?_⟩
        have hp2 := kp _ _ (upd_same (H := H6) (a := p2) (o := .lst [.int (0 + i), .int (N - (0 + i)), .int 0])) (sm7.nav np2)
        have hi' : i < N := by
          rw [Int.toNat_natCast] at hi
          exact hi
        obtain ⟨y, hy, y0, y1⟩ : ∃ y : Int, atI ([.int (0 + i), .int (N - (0 + i)), .int 0] : List V) r = some (.int y) ∧ -1000000000 ≤ y ∧ y ≤ 1000000000 := by
          obtain ⟨j, rfl⟩ : ∃ j : Nat, r = (j : Int) := ⟨r.toNat, by omega⟩
          have hj : j < 3 := by omega
          match j, hj with
          | 0, _ => exact ⟨0 + i, rfl, by omega, by omega⟩
          | 1, _ => exact ⟨N - (0 + i), rfl, by omega, by omega⟩
          | 2, _ => exact ⟨0, rfl, by omega, by omega⟩
        exact ⟨p2, _, r, .int y, rfl, rfl, .inl (.inl hp2), hy, q7 H' y ((Kp.of_same s8).trans kp) sm' y0 y1⟩
      · rw [Int.toNat_natCast] at sm7 hz
        refine ⟨.int 4, rfl, rfl, _, rfl, ?_⟩
        refine iteF ?_
        -- not 3
        refine ⟨.int 4, rfl, rfl, _, rfl, ?_⟩
        refine iteF ?_
        refine iteF ?_
        exact ⟨.ref D2, rfl, D2, _, rfl, .inl (fin H7 D2 zs _ (k6.trans k7) sm7 (by omega) hD2 hz hbz)⟩
    · -- if _law_way == 5
      refine ⟨.int r2, rfl, rfl, _, rfl, ite2 (fun e5 => ?_) (fun e5 => ?_)⟩
      · have e5' : r2 = 5 := V.int.inj (of_decide_eq_true e5)
        subst e5'
        refine ⟨.ref D, rfl, D, rfl, ⟨_, .inl (.inl hD)⟩, fun D2 nD2 => lc_rowsL (s := s) (a := a) (b := b) (n0 := n + 2 + N) (xs := es) nD2 sm5 (by omega) hD nvD (fun i x H6 Q' hx k7 sm7 q7 => ?_) (fun H7 zs k7 sm7 hD2 hz hbz => ?_)⟩
        · have hi' : i < es.length := (List.getElem?_eq_some_iff.mp hx).1
          obtain ⟨x0, x1⟩ := hb x (List.mem_of_getElem? hx)
          refine ⟨.int x, rfl, .int x, rfl, 0, x, rfl, rfl, 10, 9, rfl, rfl, ⟨by decide, by decide, by decide⟩, 10, 9, rfl, rfl, ⟨by decide, by decide, by decide⟩, 0, _, rfl, rfl, by show 4 ≤ sizeLine; decide, fun p2 np2 => ?_⟩
          have s8 := same_upd (o := .lst [.int x, .int (0 - x), .int (10 ^ (9 : Int).toNat), .int (0 - 10 ^ (9 : Int).toNat)]) np2
          refine ⟨.ref s, rfl, s, a, b, _, 4, rfl, sm7.keep s8, by omega, by decide, by decide, fun H' r kp sm' r0 r1 => ?_⟩
          have hp2 := kp _ _ (upd_same (H := H6) (a := p2) (o := .lst [.int x, .int (0 - x), .int (10 ^ (9 : Int).toNat), .int (0 - 10 ^ (9 : Int).toNat)])) (sm7.nav np2)
          obtain ⟨y, hy, y0, y1⟩ : ∃ y : Int, atI ([.int x, .int (0 - x), .int (10 ^ (9 : Int).toNat), .int (0 - 10 ^ (9 : Int).toNat)] : List V) r = some (.int y) ∧ -1000000000 ≤ y ∧ y ≤ 1000000000 := by
            obtain ⟨j, rfl⟩ : ∃ j : Nat, r = (j : Int) := ⟨r.toNat, by omega⟩
            have hj : j < 4 := by omega
            match j, hj with
            | 0, _ => exact ⟨x, rfl, by omega, by omega⟩
            | 1, _ => exact ⟨0 - x, rfl, by omega, by omega⟩
            | 2, _ => exact ⟨1000000000, rfl, by omega, by omega⟩
            | 3, _ => exact ⟨-1000000000, rfl, by omega, by omega⟩
          exact ⟨p2, _, r, .int y, rfl, rfl, .inl (.inl hp2), hy, q7 H' y ((Kp.of_same s8).trans kp) sm' y0 y1⟩
        · refine ⟨.int 5, rfl, rfl, _, rfl, ?_⟩
          refine iteF ?_
          refine iteF ?_
          exact ⟨.ref D2, rfl, D2, _, rfl, .inl (fin H7 D2 zs _ (k6.trans k7) sm7 (by omega) hD2 (by omega) hbz)⟩
      · -- if _law_way == 3 and a draw
        refine ⟨.int r2, rfl, rfl, _, rfl, ?_⟩
        refine ite2 (fun e3 => ?_) (fun e3 => ?_)
        · refine ⟨.ref s, rfl, s, a, b, _, 2, rfl, sm5, by omega, by decide, by decide, fun H6 r k7 sm7 r0 r1 => ?_⟩
          have hD6 := k7 _ _ hD nvD
          refine ⟨rfl, _, rfl, ite2 (fun e0 => ?_) (fun e0 => ?_)⟩
          · refine ⟨.ref D, rfl, D, es, rfl, .inl (.inl hD6), fun ns' p5 perm _ np5 => ?_⟩
            have s8 := same_upd (o := .lst (ns'.map V.int)) np5
            have sm8 := sm7.keep s8
            have e8 : (upd H6 p5 (.lst (ns'.map V.int))) p5 = some (.lst (ns'.map V.int)) := upd_same
            have k8 := k7.trans (Kp.of_same s8)
            have nv5 := sm7.nav np5
            generalize upd H6 p5 (.lst (ns'.map V.int)) = H7 at *
            refine ⟨1, rfl, by show 2 ≤ sizeLine; decide, fun p6 np6 => ?_⟩
            have s9 := same_upd (o := .lst [.int 1, .int (-1)]) np6
            refine ⟨.ref s, rfl, s, a, b, _, 2, rfl, sm8.keep s9, by omega, by decide, by decide, fun H8 r' k9 sm9 r0' r1' => ?_⟩
            have hp6 := k9 _ _ (upd_same (H := H7) (a := p6) (o := .lst [.int 1, .int (-1)])) (sm8.nav np6)
            have hp5 := k9 _ _ (s9 _ _ e8) nv5
            obtain ⟨y, hy, hy1⟩ : ∃ y : Int, atI ([.int 1, .int (-1)] : List V) r' = some (.int y) ∧ (y = 1 ∨ y = -1) := by
              obtain ⟨j, rfl⟩ : ∃ j : Nat, r' = (j : Int) := ⟨r'.toNat, by omega⟩
              have hj : j < 2 := by omega
              match j, hj with
              | 0, _ => exact ⟨1, rfl, .inl rfl⟩
              | 1, _ => exact ⟨-1, rfl, .inr rfl⟩
            refine ⟨p6, _, r', .int y, rfl, rfl, .inl (.inl hp6), hy, p5, _, y, rfl, .inl (.inl hp5), rfl, hy1, fun zs l hzs nl => ?_⟩
            obtain ⟨zz, rfl, hlen, hmem⟩ : ∃ zz : List Int, zs = zz.map V.int ∧ zz.length = N ∧ ∀ x ∈ zz, -1000000000 ≤ x ∧ x ≤ 1000000000 := by
              have h1 : ns'.length = N := perm.length_eq.trans hl
              have h2 : ∀ x ∈ ns', -1000000000 ≤ x ∧ x ≤ 1000000000 := fun x hx => hb x (perm.mem_iff.mp hx)
              rcases hzs with z | z
              · exact ⟨ns', z, h1, h2⟩
              · exact ⟨ns'.reverse, by rw [z, List.map_reverse], by rw [List.length_reverse]; exact h1, fun x hx => h2 x (List.mem_reverse.mp hx)⟩
            have s10 := same_upd (o := .lst (zz.map V.int)) nl
            exact ⟨.ref l, rfl, l, _, rfl, .inl (fin _ l zz _ ((k6.trans k8).trans ((Kp.of_same s9).trans (k9.trans (Kp.of_same s10)))) (sm9.keep s10) (by omega) upd_same hlen hmem)⟩
          · exact ⟨.ref D, rfl, D, _, rfl, .inl (fin H6 D es _ (k6.trans k7) sm7 (by omega) hD6 hl hb)⟩
        · refine iteF ?_
          exact ⟨.ref D, rfl, D, _, rfl, .inl (fin H5 D es _ k6 sm5 (by omega) hD hl hb)⟩
end
end Lw
/-! Defs read over data: what a name holds is data, or a list of its own; the heap is gone. -/
namespace Dl
open PySem PySem.Spec PyProof.Rows L2 Gd

/-- the objects that draws may change, and what holds of them -/
structure Fr where
  S : Addr → Prop
  I : Nat → Hp → Prop
  s : V
  keep : ∀ n H H', I n H → (∀ x o, S x → H x = some o → H' x = some o) → I n H'
  al : ∀ n H x, I n H → S x → H x ≠ none
/-- a def's call: the draws, what the arguments avoid, the heap at its start -/
structure Gx where
  F : Fr
  B : Addr → Prop
  Hs : Hp
  sb : ∀ x, F.S x → B x
  hb : ∀ x, B x → Hs x ≠ none
inductive Sl
  | no
  | dat (d : PyData)
  | own (ds : List PyData)
  | con (v : V)
structure En where
  ρ : List Sl
  n : Nat
abbrev DvL (O : Addr → Prop) (H : Hp) : List V → List PyData → Prop := Paired (Dv O H)

structure Rel (G : Gx) (O : Addr → Prop) (σ : L2.St) (H : Hp) (E : En) : Prop where
  len : σ.length = E.ρ.length
  dat : ∀ (i : Nat) (d : PyData), E.ρ[i]? = some (.dat d) → ∃ v, σ[i]? = some (some v) ∧ Dv O H v d
  own : ∀ (i : Nat) (ds : List PyData), E.ρ[i]? = some (.own ds) → ∃ a vs, σ[i]? = some (some (.ref a)) ∧ H a = some (.lst vs) ∧ O a ∧ G.Hs a = none ∧ DvL O H vs ds
  dif : ∀ (i j : Nat) (di dj : List PyData) (a : Addr), E.ρ[i]? = some (.own di) → E.ρ[j]? = some (.own dj) → σ[i]? = some (some (.ref a)) → σ[j]? = some (some (.ref a)) → i = j
  con : ∀ (i : Nat) (v : V), E.ρ[i]? = some (.con v) → σ[i]? = some (some v)
  str : G.F.I E.n H
  bo : ∀ x, G.B x → O x
  al : ∀ x, O x → H x ≠ none
  kp : Kp G.F.S G.Hs H

/-- what stood outside O stands, and what is avoided now is of O or new -/
structure Later (O : Addr → Prop) (H : Hp) (O' : Addr → Prop) (H' : Hp) : Prop where
  o : ∀ x, O' x → O x ∨ H x = none
  h : ∀ x u, H x = some u → ¬ O x → H' x = some u
theorem Later.refl (O : Addr → Prop) (H : Hp) : Later O H O H := ⟨fun _ h => .inl h, fun _ _ h _ => h⟩
theorem Later.trans {O O1 O2 : Addr → Prop} {H H1 H2 : Hp} (a : Later O H O1 H1) (b : Later O1 H1 O2 H2) : Later O H O2 H2 := by
  refine ⟨fun x h => ?_, fun x u h n => ?_⟩
  · rcases b.o x h with q | q
    · exact a.o x q
    · cases e : H x with
      | none => exact .inr rfl
      | some u =>
        refine .inl (Classical.byContradiction fun n => ?_)
        rw [a.h x u e n] at q
        cases q
  · refine b.h x u (a.h x u h n) fun q => ?_
    rcases a.o x q with r | r
    · exact n r
    · rw [h] at r
      cases r
theorem Later.of_kp {G : Gx} {O : Addr → Prop} {H H' : Hp} (sO : ∀ x, G.F.S x → O x) (k : Kp G.F.S H H') : Later O H O H' := ⟨fun _ h => .inl h, fun x u h n => k x u h fun z => n (sO x z)⟩
theorem Dv.less' {av av' : Addr → Prop} {H : Hp} {v : V} {d : PyData} (k : ∀ b, av' b → av b) (h : Dv av H v d) : Dv av' H v d := by
  induction h with
  | non => exact .non
  | bl b => exact .bl b
  | int i => exact .int i
  | str x => exact .str x
  | lst e n l _ ih => exact .lst e (fun z => n (k _ z)) l ih
  | tup e n l _ ih => exact .tup e (fun z => n (k _ z)) l ih
  | dct e n p => exact .dct e (fun z => n (k _ z)) p
theorem Dv.later {O O' : Addr → Prop} {H H' : Hp} {v : V} {d : PyData} (L : Later O H O' H') (h : Dv O H v d) : Dv O' H' v d := by
  have nn : ∀ {a : Addr} {u : HO}, H a = some u → ¬ O a → ¬ O' a := by
    intro a u e n z
    rcases L.o a z with q | q
    · exact n q
    · rw [e] at q
      cases q
  induction h with
  | non => exact .non
  | bl b => exact .bl b
  | int i => exact .int i
  | str x => exact .str x
  | lst e n l _ ih => exact .lst (L.h _ _ e n) (nn e n) l ih
  | tup e n l _ ih => exact .tup (L.h _ _ e n) (nn e n) l ih
  | dct e n p => exact .dct (L.h _ _ e n) (nn e n) p
theorem DvL.mp {O O' : Addr → Prop} {H H' : Hp} {vs : List V} {ds : List PyData} (h : DvL O H vs ds) (f : ∀ v d, Dv O H v d → Dv O' H' v d) : DvL O' H' vs ds := L2.Paired.mapP h f
theorem DvL.later {O O' : Addr → Prop} {H H' : Hp} {vs : List V} {ds : List PyData} (L : Later O H O' H') (h : DvL O H vs ds) : DvL O' H' vs ds := h.mp fun _ _ z => Dv.later L z
theorem DvL.ix {O : Addr → Prop} {H : Hp} {xs : List V} {ds : List PyData} (h : DvL O H xs ds) : ∀ (i : Nat) (x : V) (d : PyData), xs[i]? = some x → ds[i]? = some d → Dv O H x d := by
  induction h with
  | nil => intro i x d h; simp at h
  | cons r _ ih =>
    intro i x d h1 h2
    cases i with
    | zero =>
      simp only [List.getElem?_cons_zero, Option.some.injEq] at h1 h2
      subst h1 h2
      exact r
    | succ i => exact ih i x d (by simpa using h1) (by simpa using h2)
theorem dvl_of {O : Addr → Prop} {H : Hp} : ∀ {xs : List V} {ds : List PyData}, xs.length = ds.length → (∀ (i : Nat) (x : V) (d : PyData), xs[i]? = some x → ds[i]? = some d → Dv O H x d) → DvL O H xs ds
  | [], [], _, _ => .nil
  | [], _ :: _, l, _ => by cases l
  | _ :: _, [], l, _ => by cases l
  | x :: xs, d :: ds, l, h => .cons (h 0 x d rfl rfl) (dvl_of (Nat.succ.inj l) fun i y e h1 h2 => h (i + 1) y e h1 h2)
theorem Dv.mkL {O : Addr → Prop} {H : Hp} {a : Addr} {xs : List V} {ds : List PyData} (e : H a = some (.lst xs)) (n : ¬ O a) (h : DvL O H xs ds) : Dv O H (.ref a) (.list ds) := .lst e n h.length h.ix
theorem Dv.mkT {O : Addr → Prop} {H : Hp} {a : Addr} {xs : List V} {ds : List PyData} (e : H a = some (.tup xs)) (n : ¬ O a) (h : DvL O H xs ds) : Dv O H (.ref a) (.tuple ds) := .tup e n h.length h.ix
theorem Dv.unL {O : Addr → Prop} {H : Hp} {v : V} {ds : List PyData} (h : Dv O H v (.list ds)) : ∃ a xs, v = .ref a ∧ H a = some (.lst xs) ∧ ¬ O a ∧ DvL O H xs ds := by
  cases h with
  | lst e n l f => exact ⟨_, _, rfl, e, n, dvl_of l f⟩
theorem Dv.unT {O : Addr → Prop} {H : Hp} {v : V} {ds : List PyData} (h : Dv O H v (.tuple ds)) : ∃ a xs, v = .ref a ∧ H a = some (.tup xs) ∧ ¬ O a ∧ DvL O H xs ds := by
  cases h with
  | tup e n l f => exact ⟨_, _, rfl, e, n, dvl_of l f⟩

section
variable {G : Gx} {O : Addr → Prop} {σ : L2.St} {H H' : Hp} {E : En}
theorem Rel.sO (r : Rel G O σ H E) : ∀ x, G.F.S x → O x := fun x z => r.bo x (G.sb x z)
theorem Rel.lt (r : Rel G O σ H E) (k : Kp G.F.S H H') : Later O H O H' := Later.of_kp r.sO k
theorem Rel.step {n : Nat} (r : Rel G O σ H E) (k : Kp G.F.S H H') (i : G.F.I n H') : Rel G O σ H' ⟨E.ρ, n⟩ := by
  have L := r.lt k
  refine ⟨r.len, fun j d e => ?_, fun j ds e => ?_, r.dif, r.con, i, r.bo, fun x z => ?_, r.kp.trans k⟩
  · obtain ⟨v, e1, h⟩ := r.dat j d e
    exact ⟨v, e1, Dv.later L h⟩
  · obtain ⟨a, vs, e1, e2, oa, sa, h⟩ := r.own j ds e
    exact ⟨a, vs, e1, k _ _ e2 (fun z => G.hb a (G.sb a z) sa), oa, sa, h.later L⟩
  · by_cases q : G.F.S x
    · exact G.F.al n H' x i q
    · cases e : H x with
      | none => exact (r.al x z e).elim
      | some u => rw [k x u e q]; exact fun y => by cases y
/-- the same slots, another store of data -/
theorem Rel.set {i : Nat} {v : V} {d : PyData} (r : Rel G O σ H E) (h : Dv O H v d) : Rel G O (σ.set i (some v)) H ⟨E.ρ.set i (.dat d), E.n⟩ := by
  have g1 : ∀ {j : Nat} {s : Sl}, (E.ρ.set i (.dat d))[j]? = some s → (j = i ∧ s = .dat d ∧ i < E.ρ.length) ∨ (j ≠ i ∧ E.ρ[j]? = some s) := by
    intro j s e
    rw [List.getElem?_set] at e
    by_cases q : i = j
    · rw [if_pos q] at e
      split at e
      · cases e; exact .inl ⟨q.symm, rfl, by assumption⟩
      · cases e
    · rw [if_neg q] at e
      exact .inr ⟨fun z => q z.symm, e⟩
  have g2 : ∀ {j : Nat}, j ≠ i → (σ.set i (some v))[j]? = σ[j]? := fun q => List.getElem?_set_ne (fun z => q z.symm)
  refine ⟨by simp [r.len], fun j e q => ?_, fun j ds q => ?_, fun j k dj dk a q1 q2 q3 q4 => ?_, fun j u q => ?_, r.str, r.bo, r.al, r.kp⟩
  · rcases g1 q with ⟨rfl, z, hl⟩ | ⟨z1, z2⟩
    · cases z
      exact ⟨v, by rw [List.getElem?_set_self (by rw [r.len]; exact hl)], h⟩
    · rw [g2 z1]
      exact r.dat j e z2
  · rcases g1 q with ⟨_, z, _⟩ | ⟨z1, z2⟩
    · cases z
    · rw [g2 z1]
      exact r.own j ds z2
  · rcases g1 q1 with ⟨_, z, _⟩ | ⟨z1, z2⟩
    · cases z
    · rcases g1 q2 with ⟨_, z, _⟩ | ⟨y1, y2⟩
      · cases z
      · rw [g2 z1] at q3
        rw [g2 y1] at q4
        exact r.dif j k dj dk a z2 y2 q3 q4
  · rcases g1 q with ⟨_, z, _⟩ | ⟨z1, z2⟩
    · cases z
    · rw [g2 z1]
      exact r.con j u z2
/-- a slot is forgotten -/
theorem Rel.drop {i : Nat} {o : Option V} (r : Rel G O σ H E) : Rel G O (σ.set i o) H ⟨E.ρ.set i .no, E.n⟩ := by
  have g1 : ∀ {j : Nat} {s : Sl}, (E.ρ.set i .no)[j]? = some s → s ≠ .no → (j ≠ i ∧ E.ρ[j]? = some s) := by
    intro j s e ns
    rw [List.getElem?_set] at e
    by_cases q : i = j
    · rw [if_pos q] at e
      split at e
      · cases e; exact (ns rfl).elim
      · cases e
    · rw [if_neg q] at e
      exact ⟨fun z => q z.symm, e⟩
  have g2 : ∀ {j : Nat}, j ≠ i → (σ.set i o)[j]? = σ[j]? := fun q => List.getElem?_set_ne (fun z => q z.symm)
  refine ⟨by simp [r.len], fun j e q => ?_, fun j ds q => ?_, fun j k dj dk a q1 q2 q3 q4 => ?_, fun j u q => ?_, r.str, r.bo, r.al, r.kp⟩
  · obtain ⟨z1, z2⟩ := g1 q (fun z => nomatch z)
    rw [g2 z1]
    exact r.dat j e z2
  · obtain ⟨z1, z2⟩ := g1 q (fun z => nomatch z)
    rw [g2 z1]
    exact r.own j ds z2
  · obtain ⟨z1, z2⟩ := g1 q1 (fun z => nomatch z)
    obtain ⟨y1, y2⟩ := g1 q2 (fun z => nomatch z)
    rw [g2 z1] at q3
    rw [g2 y1] at q4
    exact r.dif j k dj dk a z2 y2 q3 q4
  · obtain ⟨z1, z2⟩ := g1 q (fun z => nomatch z)
    rw [g2 z1]
    exact r.con j u z2
/-- a list of one's own, new or moved: at an address of no other slot -/
theorem Rel.setOwn {i : Nat} {a : Addr} {vs : List V} {ds : List PyData} (r : Rel G O σ H E) (e : H a = some (.lst vs)) (sa : G.Hs a = none) (oa : O a) (h : DvL O H vs ds)
    (nw : ∀ j dj, j ≠ i → E.ρ[j]? = some (.own dj) → σ[j]? ≠ some (some (.ref a))) : Rel G O (σ.set i (some (.ref a))) H ⟨E.ρ.set i (.own ds), E.n⟩ := by
  have g1 : ∀ {j : Nat} {s : Sl}, (E.ρ.set i (.own ds))[j]? = some s → (j = i ∧ s = .own ds ∧ i < E.ρ.length) ∨ (j ≠ i ∧ E.ρ[j]? = some s) := by
    intro j s e
    rw [List.getElem?_set] at e
    by_cases q : i = j
    · rw [if_pos q] at e
      split at e
      · cases e; exact .inl ⟨q.symm, rfl, by assumption⟩
      · cases e
    · rw [if_neg q] at e
      exact .inr ⟨fun z => q z.symm, e⟩
  have g2 : ∀ {j : Nat}, j ≠ i → (σ.set i (some (.ref a)))[j]? = σ[j]? := fun q => List.getElem?_set_ne (fun z => q z.symm)
  refine ⟨by simp [r.len], fun j e q => ?_, fun j es q => ?_, fun j k dj dk b q1 q2 q3 q4 => ?_, fun j u q => ?_, r.str, r.bo, r.al, r.kp⟩
  · rcases g1 q with ⟨_, z, _⟩ | ⟨z1, z2⟩
    · cases z
    · rw [g2 z1]
      exact r.dat j e z2
  · rcases g1 q with ⟨rfl, z, hl⟩ | ⟨z1, z2⟩
    · cases z
      exact ⟨a, vs, by rw [List.getElem?_set_self (by rw [r.len]; exact hl)], e, oa, sa, h⟩
    · rw [g2 z1]
      exact r.own j es z2
  · rcases g1 q1 with ⟨rfl, z, hl⟩ | ⟨z1, z2⟩
    · rcases g1 q2 with ⟨y, _, _⟩ | ⟨y1, y2⟩
      · exact y.symm
      · rw [List.getElem?_set_self (by rw [r.len]; exact hl)] at q3
        cases q3
        rw [g2 y1] at q4
        exact (nw k dk y1 y2 q4).elim
    · rcases g1 q2 with ⟨rfl, z, hl⟩ | ⟨y1, y2⟩
      · rw [List.getElem?_set_self (by rw [r.len]; exact hl)] at q4
        cases q4
        rw [g2 z1] at q3
        exact (nw j dj z1 z2 q3).elim
      · rw [g2 z1] at q3
        rw [g2 y1] at q4
        exact r.dif j k dj dk b z2 y2 q3 q4
  · rcases g1 q with ⟨_, z, _⟩ | ⟨z1, z2⟩
    · cases z
    · rw [g2 z1]
      exact r.con j u z2
/-- more is avoided: an address where no object of H's data stands -/
theorem Rel.more {O' : Addr → Prop} (r : Rel G O σ H E) (L : Later O H O' H') (k : ∀ x, O x → O' x) (al : ∀ x, O' x → H' x ≠ none) (ko : ∀ x u, H x = some u → O x → H' x = some u) (i : G.F.I E.n H') : Rel G O' σ H' E := by
  have kk : ∀ x u, H x = some u → H' x = some u := fun x u e => by
    by_cases q : O x
    · exact ko x u e q
    · exact L.h x u e q
  refine ⟨r.len, fun j d e => ?_, fun j ds e => ?_, r.dif, r.con, i, fun x z => k x (r.bo x z), al, fun x u e n => kk x u (r.kp x u e n)⟩
  · obtain ⟨v, e1, h⟩ := r.dat j d e
    exact ⟨v, e1, Dv.later L h⟩
  · obtain ⟨a, vs, e1, e2, oa, sa, h⟩ := r.own j ds e
    exact ⟨a, vs, e1, kk _ _ e2, k _ oa, sa, h.later L⟩
/-- another list at an own slot's address -/
theorem Rel.mut {i : Nat} {a : Addr} {vs : List V} {ds ds0 : List PyData} (r : Rel G O σ H E) (e0 : E.ρ[i]? = some (.own ds0)) (e1 : σ[i]? = some (some (.ref a))) (oa : O a) (sa : G.Hs a = none) (h : DvL O H vs ds) :
    Rel G O σ (upd H a (.lst vs)) ⟨E.ρ.set i (.own ds), E.n⟩ ∧ Later O H O (upd H a (.lst vs)) := by
  have L : Later O H O (upd H a (.lst vs)) := ⟨fun _ z => .inl z, fun x u e n => by rw [upd_ne (show x ≠ a from fun z => n (by rw [z]; exact oa))]; exact e⟩
  have ns : ¬ G.F.S a := fun z => G.hb a (G.sb a z) sa
  have g1 : ∀ {j : Nat} {s : Sl}, (E.ρ.set i (.own ds))[j]? = some s → (j = i ∧ s = .own ds) ∨ (j ≠ i ∧ E.ρ[j]? = some s) := by
    intro j s e
    rw [List.getElem?_set] at e
    by_cases q : i = j
    · rw [if_pos q] at e
      split at e
      · cases e; exact .inl ⟨q.symm, rfl⟩
      · cases e
    · rw [if_neg q] at e
      exact .inr ⟨fun z => q z.symm, e⟩
  refine ⟨⟨by simp [r.len], fun j e q => ?_, fun j es q => ?_, fun j k dj dk b q1 q2 q3 q4 => ?_, fun j u q => ?_, ?_, r.bo, fun x z => ?_, fun x u e n => ?_⟩, L⟩
  · rcases g1 q with ⟨_, z⟩ | ⟨z1, z2⟩
    · cases z
    · obtain ⟨v, q1, q2⟩ := r.dat j e z2
      exact ⟨v, q1, Dv.later L q2⟩
  · rcases g1 q with ⟨rfl, z⟩ | ⟨z1, z2⟩
    · cases z
      exact ⟨a, vs, e1, upd_same, oa, sa, h.later L⟩
    · obtain ⟨b, ws, q1, q2, q3, q4, q5⟩ := r.own j es z2
      refine ⟨b, ws, q1, ?_, q3, q4, q5.later L⟩
      rw [upd_ne (show b ≠ a from fun z => z1 (r.dif j i es ds0 a z2 e0 (by rw [← z]; exact q1) e1))]
      exact q2
  · rcases g1 q1 with ⟨rfl, _⟩ | ⟨z1, z2⟩
    · rcases g1 q2 with ⟨rfl, _⟩ | ⟨y1, y2⟩
      · rfl
      · exact r.dif _ k ds0 dk b e0 y2 q3 q4
    · rcases g1 q2 with ⟨rfl, _⟩ | ⟨y1, y2⟩
      · exact r.dif j _ dj ds0 b z2 e0 q3 q4
      · exact r.dif j k dj dk b z2 y2 q3 q4
  · rcases g1 q with ⟨_, z⟩ | ⟨z1, z2⟩
    · cases z
    · exact r.con j u z2
  · exact G.F.keep _ _ _ r.str fun x o z e => by rw [upd_ne (show x ≠ a from fun y => ns (by rw [← y]; exact z))]; exact e
  · by_cases q : x = a
    · subst q
      rw [upd_same]
      exact fun y => by cases y
    · rw [upd_ne q]
      exact r.al x z
  · have := r.kp x u e n
    by_cases q : x = a
    · subst q
      rw [sa] at e
      cases e
    · rw [upd_ne q]
      exact this
/-- an own list is given up: from now on it is data -/
theorem Rel.freeze {i : Nat} {ds : List PyData} (r : Rel G O σ H E) (e0 : E.ρ[i]? = some (.own ds)) :
    ∃ a vs O', σ[i]? = some (some (.ref a)) ∧ H a = some (.lst vs) ∧ ¬ O' a ∧ DvL O' H vs ds ∧ Rel G O' σ H ⟨E.ρ.set i (.dat (.list ds)), E.n⟩ ∧ Later O H O' H ∧ (∀ x, O' x → O x) := by
  obtain ⟨a, vs, q1, q2, q3, q4, q5⟩ := r.own i ds e0
  have L : Later O H (fun x => O x ∧ x ≠ a) H := ⟨fun _ z => .inl z.1, fun _ _ e _ => e⟩
  have g1 : ∀ {j : Nat} {s : Sl}, (E.ρ.set i (.dat (.list ds)))[j]? = some s → (j = i ∧ s = .dat (.list ds)) ∨ (j ≠ i ∧ E.ρ[j]? = some s) := by
    intro j s e
    rw [List.getElem?_set] at e
    by_cases q : i = j
    · rw [if_pos q] at e
      split at e
      · cases e; exact .inl ⟨q.symm, rfl⟩
      · cases e
    · rw [if_neg q] at e
      exact .inr ⟨fun z => q z.symm, e⟩
  refine ⟨a, vs, fun x => O x ∧ x ≠ a, q1, q2, fun z => z.2 rfl, q5.later L, ⟨by simp [r.len], fun j e q => ?_, fun j es q => ?_, fun j k dj dk b z1 z2 z3 z4 => ?_, fun j u q => ?_, r.str, fun x z => ⟨r.bo x z, fun y => G.hb x z (y ▸ q4)⟩, fun x z => r.al x z.1, r.kp⟩, L, fun x z => z.1⟩
  · rcases g1 q with ⟨rfl, z⟩ | ⟨z1, z2⟩
    · cases z
      exact ⟨_, q1, Dv.mkL q2 (fun z => z.2 rfl) (q5.later L)⟩
    · obtain ⟨v, y1, y2⟩ := r.dat j e z2
      exact ⟨v, y1, Dv.later L y2⟩
  · rcases g1 q with ⟨_, z⟩ | ⟨z1, z2⟩
    · cases z
    · obtain ⟨b, ws, y1, y2, y3, y4, y5⟩ := r.own j es z2
      exact ⟨b, ws, y1, y2, ⟨y3, fun z => z1 (r.dif j i es ds a z2 e0 (z ▸ y1) q1)⟩, y4, y5.later L⟩
  · rcases g1 z1 with ⟨_, z⟩ | ⟨w1, w2⟩
    · cases z
    · rcases g1 z2 with ⟨_, z⟩ | ⟨y1, y2⟩
      · cases z
      · exact r.dif j k dj dk b w2 y2 z3 z4
  · rcases g1 q with ⟨_, z⟩ | ⟨z1, z2⟩
    · cases z
    · exact r.con j u z2
end

/-! ### readings over data -/
abbrev TD := En → (PyData → Nat → Prop) → Prop
abbrev TDt := En → (Bool → Nat → Prop) → Prop
inductive Ar
  | d (x : PyData)
  | c (v : V)
def Ar.sl : Ar → Sl
  | .d x => .dat x
  | .c v => .con v
def ArR (O : Addr → Prop) (H : Hp) (v : V) : Ar → Prop
  | .d x => Dv O H v x
  | .c u => v = u
abbrev TDa := En → (List Ar → Nat → Prop) → Prop
structure DEnds where
  nx : En → Prop
  rt : PyData → Nat → Prop
  bk : En → Prop := fun _ => False
  ct : En → Prop := fun _ => False
abbrev TSd := DEnds → En → Prop
abbrev RR := (Addr → Prop) → Hp → Hp → V → PyData → Prop
/-- data | data, or a list whose own address may be any | a new list -/
def RD : RR := fun O _ H' v d => Dv O H' v d
def Bw (O : Addr → Prop) (H : Hp) (v : V) (d : PyData) : Prop := Dv O H v d ∨ ∃ a vs ds, v = .ref a ∧ d = .list ds ∧ H a = some (.lst vs) ∧ DvL O H vs ds
def RB (G : Gx) : RR := fun O _ H' v d => Dv O H' v d ∨ ∃ a vs ds, v = .ref a ∧ d = .list ds ∧ H' a = some (.lst vs) ∧ DvL O H' vs ds ∧ ¬ G.B a
def RL : RR := fun O H H' v d => ∃ a vs ds, v = .ref a ∧ d = .list ds ∧ H a = none ∧ H' a = some (.lst vs) ∧ DvL (fun x => O x ∨ x = a) H' vs ds
section
variable (G : Gx)
def low (R : RR) (t : TD) : TE := fun σ H Q => ∃ (O : Addr → Prop) (E : En) (Qd : PyData → Nat → Prop), Rel G O σ H E ∧ (∀ d n v H', Kp G.F.S H H' → G.F.I n H' → R O H H' v d → Qd d n → Q v H') ∧ t E Qd
def lowT (t : TDt) : TT := fun σ H Q => ∃ (O : Addr → Prop) (E : En) (Qd : Bool → Nat → Prop), Rel G O σ H E ∧ (∀ b n H', Kp G.F.S H H' → G.F.I n H' → Qd b n → Q b H') ∧ t E Qd
def lowA (t : TDa) : TA := fun σ H Q => ∃ (O : Addr → Prop) (E : En) (Qd : List Ar → Nat → Prop), Rel G O σ H E ∧ (∀ as n vs H', Kp G.F.S H H' → G.F.I n H' → Paired (ArR O H') vs as → Qd as n → Q vs H') ∧ t E Qd
structure Lk (O : Addr → Prop) (H : Hp) (D : Ends) (Dd : DEnds) : Prop where
  nx : ∀ O' σ' H' E', Later O H O' H' → Rel G O' σ' H' E' → Dd.nx E' → D.nx σ' H'
  rt : ∀ v H' d n, Kp G.F.S G.Hs H' → G.F.I n H' → Dv G.B H' v d → Dd.rt d n → D.rt v H'
  bk : ∀ O' σ' H' E', Later O H O' H' → Rel G O' σ' H' E' → Dd.bk E' → D.bk σ' H'
  ct : ∀ O' σ' H' E', Later O H O' H' → Rel G O' σ' H' E' → Dd.ct E' → D.ct σ' H'
def lowS (t : TSd) : TS := fun D σ H => ∃ (O : Addr → Prop) (E : En) (Dd : DEnds), Rel G O σ H E ∧ Lk G O H D Dd ∧ t Dd E
end
theorem Lk.later {G : Gx} {O O1 : Addr → Prop} {H H1 : Hp} {D : Ends} {Dd : DEnds} (k : Lk G O H D Dd) (L : Later O H O1 H1) : Lk G O1 H1 D Dd :=
  ⟨fun O' σ' H' E' l => k.nx O' σ' H' E' (L.trans l), k.rt, fun O' σ' H' E' l => k.bk O' σ' H' E' (L.trans l), fun O' σ' H' E' l => k.ct O' σ' H' E' (L.trans l)⟩
section
variable {X : Cx} {G : Gx}
abbrev PD (X : Cx) (G : Gx) (e : Expr) (t : TD) : Prop := PE X e (low G RD t)
abbrev PB (X : Cx) (G : Gx) (e : Expr) (t : TD) : Prop := PE X e (low G (RB G) t)
abbrev PL (X : Cx) (G : Gx) (e : Expr) (t : TD) : Prop := PE X e (low G RL t)
abbrev PQ (X : Cx) (G : Gx) (e : Expr) (t : TDt) : Prop := PT X e (lowT G t)
abbrev PR (X : Cx) (G : Gx) (es : List Expr) (t : TDa) : Prop := PA X es (lowA G t)
abbrev PZ (X : Cx) (G : Gx) (st : Stmt) (t : TSd) : Prop := PS X st (lowS G t)
abbrev PZs (X : Cx) (G : Gx) (st : List Stmt) (t : TSd) : Prop := PSs X st (lowS G t)
theorem PE.wk {e : Expr} {t u : TE} (h : PE X e t) (k : ∀ σ H Q, u σ H Q → t σ H Q) : PE X e u := ⟨fun p s σ H Q I z => h.run p s σ H Q I (k σ H Q z)⟩
theorem PT.wk {e : Expr} {t u : TT} (h : PT X e t) (k : ∀ σ H Q, u σ H Q → t σ H Q) : PT X e u := ⟨fun p s σ H Q I z => h.run p s σ H Q I (k σ H Q z)⟩
theorem PA.wk {e : List Expr} {t u : TA} (h : PA X e t) (k : ∀ σ H Q, u σ H Q → t σ H Q) : PA X e u := ⟨fun c p s σ H Q I z => h.run c p s σ H Q I (k σ H Q z)⟩
theorem PS.wk {e : Stmt} {t u : TS} (h : PS X e t) (k : ∀ D σ H, u D σ H → t D σ H) : PS X e u := ⟨fun p s σ H D I z => h.run p s σ H D I (k D σ H z)⟩
theorem PSs.wk {e : List Stmt} {t u : TS} (h : PSs X e t) (k : ∀ D σ H, u D σ H → t D σ H) : PSs X e u := ⟨fun p s σ H D I z => h.run p s σ H D I (k D σ H z)⟩
/-- data is borrowed data; a new list is data -/
theorem PB.of {e : Expr} {t : TD} (h : PD X G e t) : PB X G e t := PE.wk h fun σ H Q ⟨O, E, Qd, r, i, z⟩ => ⟨O, E, Qd, r, fun d n v H' k s x q => i d n v H' k s (.inl x) q, z⟩
theorem PD.ofL {e : Expr} {t : TD} (h : PL X G e t) : PD X G e t := PE.wk h fun σ H Q ⟨O, E, Qd, r, i, z⟩ => ⟨O, E, Qd, r, fun d n v H' k s ⟨a, vs, ds, e1, e2, e3, e4, e5⟩ q => by
  subst e1 e2
  exact i _ n _ H' k s (Dv.mkL e4 (fun y => r.al a y e3) (e5.mp fun _ _ z => Dv.less' (fun _ y => .inl y) z)) q, z⟩

/-! ### names and constants -/
inductive opt {α : Type} (o : Option α) (Q : α → Prop) : Prop
  | mk (z : α) (e : o = some z) (q : Q z) : opt o Q
def dVar (i : Nat) : TD := fun E Q => match E.ρ[i]? with | some (.dat d) => Q d E.n | _ => False
def dBor (i : Nat) : TD := fun E Q => match E.ρ[i]? with | some (.dat d) => Q d E.n | some (.own ds) => Q (.list ds) E.n | _ => False
def dC (d : PyData) : TD := fun E Q => Q d E.n
theorem pd_var {i : Nat} {x : Str} {pos : Pos} (h : PE X (.Name x pos) (tVar i)) : PD X G (.Name x pos) (dVar i) := PE.wk h fun σ H Q ⟨O, E, Qd, r, im, z⟩ => by
  unfold dVar at z
  split at z
  · rename_i d e
    obtain ⟨v, e1, h1⟩ := r.dat i d e
    exact ⟨v, e1, im d E.n v H (Kp.refl H) r.str h1 z⟩
  · exact z.elim
theorem pb_var {i : Nat} {x : Str} {pos : Pos} (h : PE X (.Name x pos) (tVar i)) : PB X G (.Name x pos) (dBor i) := PE.wk h fun σ H Q ⟨O, E, Qd, r, im, z⟩ => by
  unfold dBor at z
  split at z
  · rename_i d e
    obtain ⟨v, e1, h1⟩ := r.dat i d e
    exact ⟨v, e1, im d E.n v H (Kp.refl H) r.str (.inl h1) z⟩
  · rename_i ds e
    obtain ⟨a, vs, e1, e2, _, e4, e5⟩ := r.own i ds e
    exact ⟨_, e1, im _ E.n _ H (Kp.refl H) r.str (.inr ⟨a, vs, ds, rfl, rfl, e2, e5, fun y => G.hb a y e4⟩) z⟩
  · exact z.elim
theorem pd_c {e : Expr} {v : V} {d : PyData} (h : PE X e (tC v)) (hd : ∀ O H, Dv O H v d) : PD X G e (dC d) := PE.wk h fun σ H Q ⟨O, E, Qd, r, im, z⟩ => im d E.n v H (Kp.refl H) r.str (hd O H) z
theorem pd_int {i : Int} {j : Nat} {pos : Pos} : PD X G (.Constant (.int i) j pos) (dC (.int i)) := pd_c pe_int fun _ _ => .int i
theorem pd_bl {i : Bool} {j : Nat} {pos : Pos} : PD X G (.Constant (.bool i) j pos) (dC (.bool i)) := pd_c pe_bl fun _ _ => .bl i
theorem pd_non {j : Nat} {pos : Pos} : PD X G (.Constant .none j pos) (dC .none) := pd_c pe_non fun _ _ => .non
theorem pd_str {i : Str} {j : Nat} {pos : Pos} : PD X G (.Constant (.str i) j pos) (dC (.str i)) := pd_c pe_str fun _ _ => .str i

/-! ### operators by values -/
theorem opt_of {α : Type} {o : Option α} {z : α} {Q : α → Prop} (e : o = some z) (q : Q z) : opt o Q := ⟨z, e, q⟩
theorem opt_el {α : Type} {o : Option α} {Q : α → Prop} (h : opt o Q) : ∃ z, o = some z ∧ Q z := by
  obtain ⟨z, e, q⟩ := h
  exact ⟨z, e, q⟩
theorem RB.bw {O : Addr → Prop} {H0 H : Hp} {v : V} {d : PyData} (h : RB G O H0 H v d) : Bw O H v d := by
  rcases h with h | ⟨a, vs, ds, e1, e2, e3, e4, _⟩
  · exact .inl h
  · exact .inr ⟨a, vs, ds, e1, e2, e3, e4⟩
theorem RB.kp {O : Addr → Prop} {σ : L2.St} {E : En} {H0 H1 H H' : Hp} {v : V} {d : PyData} (r : Rel G O σ H E) (k : Kp G.F.S H H') (h : RB G O H0 H v d) : RB G O H1 H' v d := by
  rcases h with h | ⟨a, vs, ds, e1, e2, e3, e4, e5⟩
  · exact .inl (Dv.later (r.lt k) h)
  · exact .inr ⟨a, vs, ds, e1, e2, k _ _ e3 (fun y => e5 (G.sb a y)), e4.later (r.lt k), e5⟩
/-- what an operation may add: objects that are new -/
def Nw (O : Addr → Prop) (H : Hp) (z : PyData) (Q : VK) : Prop := ∀ v H', Same H H' → Dv O H' v z → Q v H'
def NwL (O : Addr → Prop) (H : Hp) (z : PyData) (Q : VK) : Prop := ∀ v H', Same H H' → (∃ a vs ds, v = .ref a ∧ z = .list ds ∧ H a = none ∧ H' a = some (.lst vs) ∧ DvL (fun x => O x ∨ x = a) H' vs ds) → Q v H'
theorem nw_now {O : Addr → Prop} {H : Hp} {z : PyData} {Q : VK} {v : V} (h : Nw O H z Q) (d : Dv O H v z) : Q v H := h v H (fun _ _ e => e) d
theorem same_upd' {H : Hp} {p : Addr} {o : HO} (h : H p = none) : Same H (upd H p o) := fun b x e => by
  rw [upd_ne (ne_of_none e h)]
  exact e
theorem later_new {O : Addr → Prop} {H : Hp} {p : Addr} {o : HO} (h : H p = none) : Later O H O (upd H p o) := ⟨fun _ z => .inl z, fun b x e _ => same_upd' h b x e⟩
theorem later_newO {O : Addr → Prop} {H : Hp} {p : Addr} {o : HO} (h : H p = none) : Later O H (fun x => O x ∨ x = p) (upd H p o) := ⟨fun x z => z.elim .inl fun y => .inr (y ▸ h), fun b x e _ => same_upd' h b x e⟩
theorem nw_tup {O : Addr → Prop} {H : Hp} {ds : List PyData} {Q : VK} {vs : List V} {p : Addr} (al : ∀ a, O a → H a ≠ none) (h : Nw O H (.tuple ds) Q) (hp : H p = none) (d : DvL O H vs ds) : Q (.ref p) (upd H p (.tup vs)) :=
  h _ _ (same_upd' hp) (Dv.mkT upd_same (fun z => al p z hp) (d.later (later_new hp)))
theorem nw_lst {O : Addr → Prop} {H : Hp} {ds : List PyData} {Q : VK} {vs : List V} {p : Addr} (h : NwL O H (.list ds) Q) (hp : H p = none) (d : DvL O H vs ds) : Q (.ref p) (upd H p (.lst vs)) :=
  h _ _ (same_upd' hp) ⟨p, vs, ds, rfl, rfl, hp, upd_same, d.later (later_newO hp)⟩
theorem Rel.fin {O : Addr → Prop} {σ : L2.St} {E : En} {H H' : Hp} (r : Rel G O σ H E) (s : Same H H') : Kp G.F.S H H' ∧ G.F.I E.n H' := ⟨Kp.of_same s, G.F.keep _ _ _ r.str fun x o _ e => s x o e⟩

def Op2 (r : R2) (g : PyData → PyData → Option PyData) : Prop := ∀ (O : Addr → Prop) (H : Hp) (x y : V) (dx dy z : PyData) (Q : VK), (∀ a, O a → H a ≠ none) → Bw O H x dx → Bw O H y dy → g dx dy = some z → Nw O H z Q → r x y H Q
def Op2L (r : R2) (g : PyData → PyData → Option PyData) : Prop := ∀ (O : Addr → Prop) (H : Hp) (x y : V) (dx dy z : PyData) (Q : VK), (∀ a, O a → H a ≠ none) → Bw O H x dx → Bw O H y dy → g dx dy = some z → NwL O H z Q → r x y H Q
def dOp (g : PyData → PyData → Option PyData) (ta tb : TD) : TD := fun E Q => ta E fun x n => tb ⟨E.ρ, n⟩ fun y m => opt (g x y) fun z => Q z m
theorem op_core {r : R2} {g : PyData → PyData → Option PyData} {R : RR} {ta tb : TD} (N : ∀ (O : Addr → Prop) (H0 H H' : Hp) (v : V) (z : PyData), Prop)
    (l : ∀ (O : Addr → Prop) (H0 H : Hp) (x y : V) (dx dy z : PyData) (Q : VK), (∀ a, H0 a ≠ none → H a ≠ none) → (∀ a, O a → H a ≠ none) → Bw O H x dx → Bw O H y dy → g dx dy = some z → (∀ v H', Same H H' → R O H0 H' v z → Q v H') → r x y H Q) :
    ∀ σ H Q, low G R (dOp g ta tb) σ H Q → tOp r (low G (RB G) ta) (low G (RB G) tb) σ H Q := by
  rintro σ H Q ⟨O, E, Qd, rl, im, z⟩
  refine ⟨O, E, _, rl, ?_, z⟩
  rintro dx n x H1 k1 i1 rx q1
  have r1 := rl.step k1 i1
  refine ⟨O, _, _, r1, ?_, q1⟩
  rintro dy m y H2 k2 i2 ry q2
  obtain ⟨w, e, q⟩ := opt_el q2
  have r2 := r1.step k2 i2
  refine l O H H2 x y dx dy w Q (fun a h0 => ?_) r2.al (rx.kp r1 k2 (H1 := H)).bw ry.bw e (fun v H' s rv => ?_)
  · by_cases q : G.F.S a
    · exact G.F.al m H2 a i2 q
    · cases e0 : H a with
      | none => exact (h0 e0).elim
      | some u => rw [k2 a u (k1 a u e0 q) q]; exact fun y => by cases y
  · obtain ⟨k3, i3⟩ := r2.fin s
    exact im w m v H' ((k1.trans k2).trans k3) i3 rv q
theorem dop {r : R2} {g : PyData → PyData → Option PyData} {ta tb : TD} (l : Op2 r g) : ∀ σ H Q, low G RD (dOp g ta tb) σ H Q → tOp r (low G (RB G) ta) (low G (RB G) tb) σ H Q :=
  op_core (fun _ _ _ _ _ _ => True) fun O H0 H x y dx dy z Q _ al bx by' e q => l O H x y dx dy z Q al bx by' e fun v H' s d => q v H' s d
theorem dopL {r : R2} {g : PyData → PyData → Option PyData} {ta tb : TD} (l : Op2L r g) : ∀ σ H Q, low G RL (dOp g ta tb) σ H Q → tOp r (low G (RB G) ta) (low G (RB G) tb) σ H Q :=
  op_core (fun _ _ _ _ _ _ => True) fun O H0 H x y dx dy z Q hh al bx by' e q => l O H x y dx dy z Q al bx by' e fun v H' s ⟨a, vs, ds, e1, e2, e3, e4, e5⟩ => q v H' s ⟨a, vs, ds, e1, e2, Classical.byContradiction fun n => hh a n e3, e4, e5⟩
end
end Dl
namespace Dl
open PySem PySem.Spec PyProof.Rows L2 Gd
section
variable {X : Cx} {G : Gx}
theorem Bw.int {O : Addr → Prop} {H : Hp} {v : V} {i : Int} (h : Bw O H v (.int i)) : v = .int i := by
  rcases h with h | ⟨a, vs, ds, _, e, _⟩
  · cases h; rfl
  · cases e
theorem Bw.bl {O : Addr → Prop} {H : Hp} {v : V} {i : Bool} (h : Bw O H v (.bool i)) : v = .bl i := by
  rcases h with h | ⟨a, vs, ds, _, e, _⟩
  · cases h; rfl
  · cases e
theorem Bw.lst {O : Addr → Prop} {H : Hp} {v : V} {ds : List PyData} (h : Bw O H v (.list ds)) : ∃ a vs, v = .ref a ∧ H a = some (.lst vs) ∧ DvL O H vs ds := by
  rcases h with h | ⟨a, vs, es, e1, e, e2, e3⟩
  · obtain ⟨a, xs, e1, e2, _, e4⟩ := Dv.unL h
    exact ⟨a, xs, e1, e2, e4⟩
  · cases e
    exact ⟨a, vs, e1, e2, e3⟩
theorem Bw.tup {O : Addr → Prop} {H : Hp} {v : V} {ds : List PyData} (h : Bw O H v (.tuple ds)) : ∃ a vs, v = .ref a ∧ H a = some (.tup vs) ∧ DvL O H vs ds ∧ Dv O H v (.tuple ds) := by
  rcases h with h | ⟨a, vs, es, e1, e, e2, e3⟩
  · obtain ⟨a, xs, e1, e2, _, e4⟩ := Dv.unT h
    exact ⟨a, xs, e1, e2, e4, h⟩
  · cases e
theorem Bw.non {O : Addr → Prop} {H : Hp} {v : V} {d : PyData} (h : Bw O H v d) : decide (v = V.non) = (match d with | .none => true | _ => false) := by
  rcases h with h | ⟨a, vs, es, e1, e, e2, e3⟩
  · cases h <;> first | rfl | exact decide_eq_false (fun z => by cases z)
  · subst e1 e
    exact decide_eq_false (fun z => by cases z)
theorem OpR.or {f : Value → Value → Sem Value} {r r' : R2} (h : OpR X f r) (h' : OpR X f r') : OpR X f (fun x y H Q => r x y H Q ∨ r' x y H Q) := fun p s σ H x y v u Q I rx ry q => q.elim (h p s σ H x y v u Q I rx ry) (h' p s σ H x y v u Q I rx ry)
theorem CallR.or {f : Value} {r r' : List V → Hp → VK → Prop} (h : CallR X f r) (h' : CallR X f r') : CallR X f (fun x H Q => r x H Q ∨ r' x H Q) := fun p s σ H xs us Q I rv q => q.elim (h p s σ H xs us Q I rv) (h' p s σ H xs us Q I rv)
theorem DvL.app {O : Addr → Prop} {H : Hp} : ∀ {a b : List V} {c d : List PyData}, DvL O H a c → DvL O H b d → DvL O H (a ++ b) (c ++ d)
  | _, _, _, _, .nil, h => h
  | _, _, _, _, .cons r t, h => .cons r (DvL.app t h)
theorem DvL.dropL {O : Addr → Prop} {H : Hp} : ∀ {a : List V} {c : List PyData} (n : Nat), DvL O H a c → DvL O H (a.drop n) (c.drop n)
  | _, _, 0, h => by simpa using h
  | _, _, _ + 1, .nil => by simpa using Paired.nil
  | _, _, n + 1, .cons _ t => by simpa using DvL.dropL n t
theorem DvL.takeL {O : Addr → Prop} {H : Hp} : ∀ {a : List V} {c : List PyData} (n : Nat), DvL O H a c → DvL O H (a.take n) (c.take n)
  | _, _, 0, _ => by simpa using Paired.nil
  | _, _, _ + 1, .nil => by simpa using Paired.nil
  | _, _, n + 1, .cons r t => by simpa using Paired.cons r (DvL.takeL n t)
theorem DvL.get {O : Addr → Prop} {H : Hp} : ∀ {a : List V} {c : List PyData}, DvL O H a c → ∀ {i : Nat} {d : PyData}, c[i]? = some d → ∃ v, a[i]? = some v ∧ Dv O H v d
  | _, _, .nil, i, d, e => by simp at e
  | _, _, .cons r t, 0, d, e => by
    simp only [List.getElem?_cons_zero, Option.some.injEq] at e
    subst e
    exact ⟨_, rfl, r⟩
  | _, _, .cons r t, i + 1, d, e => by
    obtain ⟨v, h1, h2⟩ := DvL.get t (by simpa using e)
    exact ⟨v, by simpa using h1, h2⟩
theorem DvL.setL {O : Addr → Prop} {H : Hp} {v : V} {d : PyData} (hv : Dv O H v d) : ∀ {a : List V} {c : List PyData} (n : Nat), DvL O H a c → DvL O H (a.set n v) (c.set n d)
  | _, _, _, .nil => by simpa using Paired.nil
  | _, _, 0, .cons _ t => by simpa using Paired.cons hv t
  | _, _, n + 1, .cons r t => by simpa using Paired.cons r (DvL.setL hv n t)
theorem DvL.repL {O : Addr → Prop} {H : Hp} {a : List V} {c : List PyData} (h : DvL O H a c) : ∀ n : Nat, DvL O H (List.replicate n a).flatten (List.replicate n c).flatten
  | 0 => by simpa using Paired.nil
  | n + 1 => by
    rw [List.replicate_succ, List.flatten_cons, List.replicate_succ, List.flatten_cons]
    exact DvL.app h (DvL.repL h n)
theorem sq_of {K : PySem.W.Frag} {H : Hp} {a : Addr} {xs : List V} (h : H a = some (.lst xs)) : SqL K H a xs := .inl (.inl h)
theorem st_of {K : PySem.W.Frag} {H : Hp} {a : Addr} {xs : List V} (h : H a = some (.tup xs)) : SqT K H a xs := .inl (.inl h)
theorem sz_of {n : Nat} (h : n ≤ 100000) : n ≤ sizeLine := Nat.le_trans h (by decide)
theorem sz_lt {n : Nat} (h : n < 100000) : n < sizeLine := Nat.lt_of_lt_of_le h (by decide)

/-! ### the operators on data -/
def gI (f : Int → Int → PyData) : PyData → PyData → Option PyData
  | .int i, .int j => some (f i j)
  | _, _ => none
theorem gI_el {f : Int → Int → PyData} {dx dy z : PyData} (h : gI f dx dy = some z) : ∃ i j, dx = .int i ∧ dy = .int j ∧ z = f i j := by
  unfold gI at h
  split at h
  · cases h; exact ⟨_, _, rfl, rfl, rfl⟩
  · cases h
theorem op2_I0 {g : Int → Int → V} {f : Int → Int → PyData} (h : ∀ i j O H, Dv O H (g i j) (f i j)) : Op2 (rI0 g) (gI f) := by
  intro O H x y dx dy z Q al bx by' e q
  obtain ⟨i, j, rfl, rfl, rfl⟩ := gI_el e
  exact ⟨i, j, bx.int, by'.int, nw_now q (h i j O H)⟩
def gIc (c : Int → Int → Bool) (f : Int → Int → PyData) : PyData → PyData → Option PyData
  | .int i, .int j => if c i j then some (f i j) else none
  | _, _ => none
theorem op2_I {C : Int → Int → Prop} {g : Int → Int → V} {c : Int → Int → Bool} {f : Int → Int → PyData} (hc : ∀ i j, c i j = true → C i j) (h : ∀ i j O H, Dv O H (g i j) (f i j)) : Op2 (rI C g) (gIc c f) := by
  intro O H x y dx dy z Q al bx by' e q
  unfold gIc at e
  split at e
  · split at e
    · cases e; exact ⟨_, _, bx.int, by'.int, hc _ _ (by assumption), nw_now q (h _ _ O H)⟩
    · cases e
  · cases e
def small2 (a b : List PyData) : Bool := decide (a.length + b.length ≤ 100000)
def gCatT : PyData → PyData → Option PyData
  | .tuple a, .tuple b => if small2 a b then some (.tuple (a ++ b)) else none
  | _, _ => none
theorem op2_catT {K : PySem.W.Frag} : Op2 (rCatA K) gCatT := by
  intro O H x y dx dy z Q al bx by' e q
  unfold gCatT at e
  split at e
  · split at e
    · cases e
      rename_i xs ys hs
      obtain ⟨a, vs, rfl, h1, d1, w1⟩ := bx.tup
      obtain ⟨b, us, rfl, h2, d2, w2⟩ := by'.tup
      have l1 := d1.length
      have l2 := d2.length
      refine ⟨a, b, vs, us, rfl, rfl, st_of h1, st_of h2, sz_of (by rw [l1, l2]; exact of_decide_eq_true hs), fun e => ?_, fun _ e => ?_, fun _ _ p hp => nw_tup al q hp (d1.app d2)⟩
      · subst e
        cases d1
        exact nw_now q w2
      · subst e
        cases d2
        rw [List.append_nil] at q
        exact nw_now q w1
    · cases e
  · cases e
def gCatL : PyData → PyData → Option PyData
  | .list a, .list b => if small2 a b then some (.list (a ++ b)) else none
  | _, _ => none
theorem op2_catL : Op2L rCat gCatL := by
  intro O H x y dx dy z Q al bx by' e q
  unfold gCatL at e
  split at e
  · split at e
    · cases e
      rename_i xs ys hs
      obtain ⟨a, vs, rfl, h1, d1⟩ := bx.lst
      obtain ⟨b, us, rfl, h2, d2⟩ := by'.lst
      exact ⟨a, b, vs, us, rfl, rfl, h1, h2, sz_of (by rw [d1.length, d2.length]; exact of_decide_eq_true hs), fun p hp => nw_lst q hp (d1.app d2)⟩
    · cases e
  · cases e
theorem op2_ofL {r : R2} {g : PyData → PyData → Option PyData} (h : Op2L r g) : Op2 r g := fun O H x y dx dy z Q al bx by' e q => h O H x y dx dy z Q al bx by' e fun v H' s ⟨a, vs, ds, e1, e2, e3, e4, e5⟩ => by
  subst e1 e2
  exact q _ H' s (Dv.mkL e4 (fun z => al a z e3) (e5.mp fun _ _ z => Dv.less' (fun _ y => .inl y) z))
def gAdd : PyData → PyData → Option PyData
  | .int i, .int j => some (.int (i + j))
  | .tuple a, .tuple b => if small2 a b then some (.tuple (a ++ b)) else none
  | .list a, .list b => if small2 a b then some (.list (a ++ b)) else none
  | _, _ => none
theorem op2_add {K : PySem.W.Frag} : Op2 (fun x y H Q => rI0 (fun i j => .int (i + j)) x y H Q ∨ (rCatA K x y H Q ∨ rCat x y H Q)) gAdd := by
  intro O H x y dx dy z Q al bx by' e q
  unfold gAdd at e
  split at e
  · cases e; exact .inl (op2_I0 (fun i j O H => .int _) O H x y _ _ _ Q al bx by' rfl q)
  · exact .inr (.inl (op2_catT O H x y _ _ _ Q al bx by' e q))
  · exact .inr (.inr (op2_ofL op2_catL O H x y _ _ _ Q al bx by' e q))
  · cases e
theorem pd_add {a b : Expr} {ta tb : TD} {pos : Pos} (ha : PB X G a ta) (hb : PB X G b tb) : PD X G (.BinOp a .Add b pos) (dOp gAdd ta tb) := PE.wk (pe_op (op_add.or (op_catA.or op_cat)) ha hb) (dop op2_add)
theorem pl_add {a b : Expr} {ta tb : TD} {pos : Pos} (ha : PB X G a ta) (hb : PB X G b tb) : PL X G (.BinOp a .Add b pos) (dOp gCatL ta tb) := PE.wk (pe_op op_cat ha hb) (dopL op2_catL)
theorem pd_sub {a b : Expr} {ta tb : TD} {pos : Pos} (ha : PB X G a ta) (hb : PB X G b tb) : PD X G (.BinOp a .Sub b pos) (dOp (gI fun i j => .int (i - j)) ta tb) := PE.wk (pe_op op_sub ha hb) (dop (op2_I0 fun i j O H => .int _))
def cMul (i j : Int) : Bool := decide ((-(2 ^ 63) ≤ i ∧ i ≤ 2 ^ 63) ∨ (-(2 ^ 63) ≤ j ∧ j ≤ 2 ^ 63))
theorem pd_mul {a b : Expr} {ta tb : TD} {pos : Pos} (ha : PB X G a ta) (hb : PB X G b tb) : PD X G (.BinOp a .Mult b pos) (dOp (gIc cMul fun i j => .int (i * j)) ta tb) :=
  PE.wk (pe_op op_mul ha hb) (dop (op2_I (fun i j h => (of_decide_eq_true h : (-(2 ^ 63) ≤ i ∧ i ≤ 2 ^ 63) ∨ (-(2 ^ 63) ≤ j ∧ j ≤ 2 ^ 63)).elim (fun h => .inl (by constructor <;> omega)) (fun h => .inr (by constructor <;> omega))) fun i j O H => .int _))
def gRepL : PyData → PyData → Option PyData
  | .list a, .int k => if decide (k ≤ 1000 ∧ -1000 ≤ k ∧ a.length ≤ 100) then some (.list (List.replicate k.toNat a).flatten) else none
  | _, _ => none
theorem op2_repL : Op2L rRep gRepL := by
  intro O H x y dx dy z Q al bx by' e q
  unfold gRepL at e
  split at e
  · split at e
    · cases e
      rename_i xs k hs
      obtain ⟨a, vs, rfl, h1, d1⟩ := bx.lst
      have := of_decide_eq_true hs
      have l := d1.length
      refine ⟨a, k, vs, rfl, by'.int, h1, by omega, by omega, sz_of ?_, fun p hp => nw_lst q hp (d1.repL _)⟩
      have h1 : vs.length ≤ 100 := by omega
      have h2 : k.toNat ≤ 1000 := by omega
      exact Nat.le_trans (Nat.mul_le_mul h1 h2) (by decide)
    · cases e
  · cases e
theorem pl_rep {a b : Expr} {ta tb : TD} {pos : Pos} (ha : PB X G a ta) (hb : PB X G b tb) : PL X G (.BinOp a .Mult b pos) (dOp gRepL ta tb) := PE.wk (pe_op op_rep ha hb) (dopL op2_repL)
def gRepT : PyData → PyData → Option PyData
  | .tuple a, .int k => if decide (2 ≤ k ∧ k ≤ 1000 ∧ a.length ≤ 1000 ∧ a ≠ []) then some (.tuple (List.replicate k.toNat a).flatten) else none
  | _, _ => none
def cFdiv (i j : Int) : Bool := decide (0 < j ∧ j < 1073741824)
theorem pd_fdiv {a b : Expr} {ta tb : TD} {pos : Pos} (ha : PB X G a ta) (hb : PB X G b tb) : PD X G (.BinOp a .FloorDiv b pos) (dOp (gIc cFdiv fun i j => .int (i / j)) ta tb) :=
  PE.wk (pe_op op_fdiv ha hb) (dop (op2_I (fun i j h => (of_decide_eq_true h : 0 < j ∧ j < 1073741824)) fun i j O H => .int _))
def cMod (i j : Int) : Bool := decide (0 < j)
theorem pd_mod {a b : Expr} {ta tb : TD} {pos : Pos} (ha : PB X G a ta) (hb : PB X G b tb) : PD X G (.BinOp a .Mod b pos) (dOp (gIc cMod fun i j => .int (i % j)) ta tb) :=
  PE.wk (pe_op op_mod ha hb) (dop (op2_I (fun i j h => of_decide_eq_true h) fun i j O H => .int _))
def cPow (i j : Int) : Bool := decide (0 ≤ j ∧ j ≤ 1000 ∧ i.natAbs < 2 ^ 60)
theorem pd_pow {a b : Expr} {ta tb : TD} {pos : Pos} (ha : PB X G a ta) (hb : PB X G b tb) : PD X G (.BinOp a .Pow b pos) (dOp (gIc cPow fun i j => .int (i ^ j.toNat)) ta tb) :=
  PE.wk (pe_op op_pow ha hb) (dop (op2_I (fun i j h => by have := of_decide_eq_true h; exact ⟨this.1, by omega, Nat.lt_trans this.2.2 (by decide)⟩) fun i j O H => .int _))

/-! ### comparisons -/
def dTest (t : TD) : TDt := fun E Q => t E fun d n => match d with | .bool b => Q b n | _ => False
theorem low_test {te : TE} {t : TD} (h : ∀ σ H Q, low G RD t σ H Q → te σ H Q) : ∀ σ H Q, lowT G (dTest t) σ H Q → tTest te σ H Q := by
  rintro σ H Q ⟨O, E, Qd, r, im, z⟩
  refine h σ H _ ⟨O, E, _, r, ?_, z⟩
  rintro d n v H' k i rv q
  cases rv with
  | bl b => exact ⟨b, rfl, im b n H' k i q⟩
  | _ => exact q.elim
theorem pd_cmp {op : CmpOp} {r : R2} {g : PyData → PyData → Option PyData} {a b : Expr} {ta tb : TD} {pos : Pos} (ho : OpR X (compareOp op) r) (l : Op2 r g) (ha : PB X G a ta) (hb : PB X G b tb) (hm : behindInMarks op b = false) : PD X G (.Compare a [op] [b] pos) (dOp g ta tb) := PE.wk (pe_cmpR ho ha hb hm) (dop l)
theorem pq_cmp {op : CmpOp} {r : R2} {g : PyData → PyData → Option PyData} {a b : Expr} {ta tb : TD} {pos : Pos} (ho : OpR X (compareOp op) r) (l : Op2 r g) (ha : PB X G a ta) (hb : PB X G b tb) (hm : behindInMarks op b = false) : PQ X G (.Compare a [op] [b] pos) (dTest (dOp g ta tb)) := PT.wk (pt_cmpR ho ha hb hm) (low_test (dop l))
abbrev gLt := gI fun i j => .bool (decide (i < j))
abbrev gLe := gI fun i j => .bool (decide (i ≤ j))
abbrev gGt := gI fun i j => .bool (decide (j < i))
abbrev gGe := gI fun i j => .bool (decide (j ≤ i))
theorem l_lt : Op2 (rI0 fun i j => .bl (decide (i < j))) gLt := op2_I0 fun _ _ _ _ => .bl _
theorem l_le : Op2 (rI0 fun i j => .bl (decide (i ≤ j))) gLe := op2_I0 fun _ _ _ _ => .bl _
theorem l_gt : Op2 (rI0 fun i j => .bl (decide (j < i))) gGt := op2_I0 fun _ _ _ _ => .bl _
theorem l_ge : Op2 (rI0 fun i j => .bl (decide (j ≤ i))) gGe := op2_I0 fun _ _ _ _ => .bl _
def dChain (g g' : PyData → PyData → Option PyData) (ta tb tc : TD) : TD := fun E Q => ta E fun x n => tb ⟨E.ρ, n⟩ fun y m => opt (g x y) fun z => match z with
  | .bool true => tc ⟨E.ρ, m⟩ fun w k => opt (g' y w) fun u => Q u k
  | .bool false => Q (.bool false) m
  | _ => False
theorem dchain {r r' : R2} {g g' : PyData → PyData → Option PyData} {ta tb tc : TD} (l : Op2 r g) (l' : Op2 r' g') : ∀ σ H Q, low G RD (dChain g g' ta tb tc) σ H Q → tChain r r' (low G (RB G) ta) (low G (RB G) tb) (low G (RB G) tc) σ H Q := by
  rintro σ H Q ⟨O, E, Qd, rl, im, z⟩
  refine ⟨O, E, _, rl, ?_, z⟩
  rintro dx n x H1 k1 i1 rx q1
  have r1 := rl.step k1 i1
  refine ⟨O, _, _, r1, ?_, q1⟩
  rintro dy m y H2 k2 i2 ry q2
  obtain ⟨w, e, q⟩ := opt_el q2
  have r2 := r1.step k2 i2
  refine l O H2 x y dx dy w _ r2.al (rx.kp r1 k2 (H1 := H)).bw ry.bw e (fun v H' s rv => ?_)
  obtain ⟨k3, i3⟩ := r2.fin s
  have r3 := r2.step k3 i3
  cases rv with
  | bl b =>
    refine ⟨b, rfl, ?_⟩
    cases b with
    | false => exact im _ m _ H' ((k1.trans k2).trans k3) i3 (.bl false) q
    | true =>
      refine ⟨O, _, _, r3, ?_, q⟩
      rintro dw k w' H4 k4 i4 rw' q4
      obtain ⟨u, e4, q5⟩ := opt_el q4
      have r4 := r3.step k4 i4
      refine l' O H4 y w' dy dw u Q r4.al ((ry.kp r2 k3 (H1 := H)).kp r3 k4 (H1 := H)).bw rw'.bw e4 (fun v5 H5 s5 rv5 => ?_)
      obtain ⟨k5, i5⟩ := r4.fin s5
      exact im u k v5 H5 ((((k1.trans k2).trans k3).trans k4).trans k5) i5 rv5 q5
  | _ => exact q.elim
theorem pd_chain {op op' : CmpOp} {r r' : R2} {g g' : PyData → PyData → Option PyData} {a b c : Expr} {ta tb tc : TD} {pos : Pos} (ho : OpR X (compareOp op) r) (ho' : OpR X (compareOp op') r') (l : Op2 r g) (l' : Op2 r' g') (ha : PB X G a ta) (hb : PB X G b tb) (hc : PB X G c tc)
    (hm : lastMarks [op, op'] [b, c] = false := by with_unfolding_all rfl) : PD X G (.Compare a [op, op'] [b, c] pos) (dChain g g' ta tb tc) := PE.wk (pe_chain ho ho' ha hb hc hm) (dchain l l')
theorem pq_chain {op op' : CmpOp} {r r' : R2} {g g' : PyData → PyData → Option PyData} {a b c : Expr} {ta tb tc : TD} {pos : Pos} (ho : OpR X (compareOp op) r) (ho' : OpR X (compareOp op') r') (l : Op2 r g) (l' : Op2 r' g') (ha : PB X G a ta) (hb : PB X G b tb) (hc : PB X G c tc)
    (hm : lastMarks [op, op'] [b, c] = false := by with_unfolding_all rfl) : PQ X G (.Compare a [op, op'] [b, c] pos) (dTest (dChain g g' ta tb tc)) := PT.wk (pt_chain ho ho' ha hb hc hm) (low_test (dchain l l'))
/-- data of any depth, compared -/
theorem Dv.dp {K : PySem.W.Frag} {O : Addr → Prop} {H : Hp} {v : V} {d : PyData} (h : Dv O H v d) (s : d.canLay0 = true) : Dp K H v d := by
  have all : ∀ {xs : List V} {ds : List PyData}, xs.length = ds.length → (∀ (i : Nat) (x : V) (d : PyData), xs[i]? = some x → ds[i]? = some d → d.canLay0 = true → Dp K H x d) → PyData.canLayAll0 ds = true → DpAll K H xs ds := by
    intro xs
    induction xs with
    | nil =>
      intro ds l _ _
      cases ds with
      | nil => exact .nil
      | cons d ds => cases l
    | cons x xs ih =>
      intro ds l f s
      cases ds with
      | nil => cases l
      | cons d ds =>
        rw [PyData.canLayAll0, Bool.and_eq_true] at s
        exact .cons (f 0 x d rfl rfl s.1) (ih (Nat.succ.inj l) (fun i y e h1 h2 => f (i + 1) y e h1 h2) s.2)
  induction h with
  | non => exact .non
  | bl b => exact .bl b
  | int i => exact .int i
  | str x => exact .str x
  | lst e n l _ ih =>
    rw [PyData.canLay0] at s
    exact .lst (sq_of e) (all l ih s)
  | tup e n l _ ih =>
    rw [PyData.canLay0] at s
    exact .tup (st_of e) (all l ih s)
  | dct e n p =>
    rw [PyData.canLay0] at s
    cases s
theorem Bw.dp {K : PySem.W.Frag} {O : Addr → Prop} {H : Hp} {v : V} {d : PyData} (h : Bw O H v d) (s : SeqAt.shaped d = true) : Dp K H v d := by
  have s1 := SeqAt.canLay_of_shaped s
  rcases h with h | ⟨a, vs, ds, e1, e2, e3, e4⟩
  · exact Dv.dp h s1
  · subst e1 e2
    have hh : Dv (fun _ => False) H (.ref a) (.list ds) := Dv.mkL e3 id (e4.mp fun _ _ z => Dv.less' (fun _ y => y.elim) z)
    exact Dv.dp hh s1
@[irreducible] def gEq (neg : Bool) : PyData → PyData → Option PyData
  | .int i, .int j => some (.bool (neg != decide (i = j)))
  | .str i, .str j => some (.bool (neg != decide (i = j)))
  | x, y => if SeqAt.shaped x && SeqAt.shaped y then some (.bool (neg != PyData.eqv x y)) else none
theorem shaped_int (i : Int) : SeqAt.shaped (.int i) = true := by
  simp [SeqAt.shaped, PyData.canLay0, PyData.depth]
theorem Bw.str {O : Addr → Prop} {H : Hp} {v : V} {i : Str} (h : Bw O H v (.str i)) : v = .str i := by
  rcases h with h | ⟨a, vs, ds, _, e, _⟩
  · cases h; rfl
  · cases e
theorem gEq_el {neg : Bool} {dx dy z : PyData} (h : gEq neg dx dy = some z) : (SeqAt.shaped dx = true ∧ SeqAt.shaped dy = true ∧ z = .bool (neg != PyData.eqv dx dy)) ∨ (∃ a b, dx = .str a ∧ dy = .str b ∧ z = .bool (neg != decide (V.str a = V.str b))) := by
  unfold gEq at h
  split at h
  · cases h
    refine .inl ⟨shaped_int _, shaped_int _, ?_⟩
    rw [PyData.eqv]
    rfl
  · cases h
    refine .inr ⟨_, _, rfl, rfl, ?_⟩
    congr 2
    exact decide_eq_decide.mpr ⟨fun e => by rw [e], fun e => V.str.inj e⟩
  · split at h
    · rename_i hs
      rw [Bool.and_eq_true] at hs
      cases h
      exact .inl ⟨hs.1, hs.2, rfl⟩
    · cases h
abbrev rEqX (K : PySem.W.Frag) : R2 := fun x y H Q => rEqD K x y H Q ∨ rEq x y H Q
abbrev rNeX (K : PySem.W.Frag) : R2 := fun x y H Q => rNeD K x y H Q ∨ rNe x y H Q
theorem op_eqX (hu : X.A.units + 64 < cLine) : OpR X (compareOp .Eq) (rEqX X.K) := (op_eqD hu).or op_eq
theorem op_neX (hu : X.A.units + 64 < cLine) : OpR X (compareOp .NotEq) (rNeX X.K) := (op_neD hu).or op_ne
theorem l_eq {K : PySem.W.Frag} : Op2 (rEqX K) (gEq false) := by
  intro O H x y dx dy z Q al bx by' e q
  rcases gEq_el e with ⟨s1, s2, rfl⟩ | ⟨a, b, rfl, rfl, rfl⟩
  · refine .inl ⟨dx, dy, bx.dp s1, by'.dp s2, s1, s2, nw_now q ?_⟩
    rw [Bool.false_bne]
    exact .bl _
  · cases bx.str
    cases by'.str
    refine .inr ⟨rfl, nw_now q ?_⟩
    rw [Bool.false_bne]
    exact .bl _
theorem l_ne {K : PySem.W.Frag} : Op2 (rNeX K) (gEq true) := by
  intro O H x y dx dy z Q al bx by' e q
  rcases gEq_el e with ⟨s1, s2, rfl⟩ | ⟨a, b, rfl, rfl, rfl⟩
  · refine .inl ⟨dx, dy, bx.dp s1, by'.dp s2, s1, s2, nw_now q ?_⟩
    rw [Bool.true_bne]
    exact .bl _
  · cases bx.str
    cases by'.str
    refine .inr ⟨rfl, nw_now q ?_⟩
    rw [Bool.true_bne]
    exact .bl _
def isNon : PyData → Bool
  | .none => true
  | _ => false
def gIs (neg : Bool) : PyData → PyData → Option PyData
  | x, .none => some (.bool (neg != isNon x))
  | .bool a, .bool b => some (.bool (neg != decide (a = b)))
  | _, _ => none
def rIs (neg : Bool) : R2 := fun x y H Q => (y = .non ∧ Q (.bl (neg != decide (x = .non))) H) ∨ (∃ a b, x = .bl a ∧ y = .bl b ∧ Q (.bl (neg != decide (a = b))) H)
theorem Bw.isN {O : Addr → Prop} {H : Hp} {v : V} (h : Bw O H v .none) : v = .non := by
  rcases h with h | ⟨a, vs, es, e1, e, e2, e3⟩
  · cases h; rfl
  · cases e
theorem Bw.isNon {O : Addr → Prop} {H : Hp} {v : V} {d : PyData} (h : Bw O H v d) : decide (v = V.non) = isNon d := by
  rcases h with h | ⟨a, vs, es, e1, e, e2, e3⟩
  · cases h <;> first | rfl | exact decide_eq_false (fun z => by cases z)
  · subst e1 e
    exact decide_eq_false (fun z => by cases z)
theorem l_is {neg : Bool} : Op2 (rIs neg) (gIs neg) := by
  intro O H x y dx dy z Q al bx by' e q
  unfold gIs at e
  split at e
  · cases e
    refine .inl ⟨by'.isN, nw_now q ?_⟩
    rw [bx.isNon]
    exact .bl _
  · cases e
    exact .inr ⟨_, _, bx.bl, by'.bl, nw_now q (.bl _)⟩
  · cases e
theorem op_is' : OpR X (compareOp .Is) (rIs false) := by
  have h := (op_isN (X := X)).or op_is_bl
  intro p s σ H x y v u Q I rx ry q
  refine h p s σ H x y v u Q I rx ry ?_
  rcases q with q | ⟨a, b, q⟩
  · rw [Bool.false_bne] at q
    exact .inl q
  · rw [Bool.false_bne] at q
    exact .inr ⟨a, b, q⟩
theorem op_isnot' : OpR X (compareOp .IsNot) (rIs true) := by
  have h := (op_notN (X := X)).or op_isnot_bl
  intro p s σ H x y v u Q I rx ry q
  refine h p s σ H x y v u Q I rx ry ?_
  rcases q with q | ⟨a, b, q⟩
  · rw [Bool.true_bne] at q
    exact .inl q
  · rw [Bool.true_bne] at q
    exact .inr ⟨a, b, q⟩
/-- flat data as values -/
def flatD : PyData → Bool
  | .none => true
  | .bool _ => true
  | .int _ => true
  | .str _ => true
  | _ => false
def dV : PyData → V
  | .none => .non
  | .bool b => .bl b
  | .int i => .int i
  | .str x => .str x
  | _ => .non
theorem Bw.flat {O : Addr → Prop} {H : Hp} {v : V} {d : PyData} (h : Bw O H v d) (f : flatD d = true) : v = dV d ∧ flatV v = true := by
  rcases h with h | ⟨a, vs, es, e1, e, e2, e3⟩
  · cases h <;> first | exact ⟨rfl, rfl⟩ | cases f
  · subst e
    cases f
theorem DvL.flat {O : Addr → Prop} {H : Hp} : ∀ {vs : List V} {ds : List PyData}, DvL O H vs ds → ds.all flatD = true → vs = ds.map dV ∧ vs.all flatV = true
  | _, _, .nil, _ => ⟨rfl, rfl⟩
  | _, _, .cons r t, f => by
    rw [List.all_cons, Bool.and_eq_true] at f
    obtain ⟨h1, h2⟩ := (Bw.flat (.inl r) f.1)
    obtain ⟨h3, h4⟩ := DvL.flat t f.2
    subst h1 h3
    exact ⟨rfl, by rw [List.all_cons, h2, h4]; rfl⟩
def gIn (neg : Bool) : PyData → PyData → Option PyData
  | x, .list ds => if flatD x && ds.all flatD then some (.bool (if neg then !inV (dV x) (ds.map dV) else inV (dV x) (ds.map dV))) else none
  | x, .tuple ds => if flatD x && ds.all flatD then some (.bool (if neg then !inV (dV x) (ds.map dV) else inV (dV x) (ds.map dV))) else none
  | _, _ => none
theorem l_in {K : PySem.W.Frag} {neg : Bool} : Op2 (rIn K neg) (gIn neg) := by
  intro O H x y dx dy z Q al bx by' e q
  unfold gIn at e
  split at e
  · split at e
    · rename_i hs
      rw [Bool.and_eq_true] at hs
      cases e
      obtain ⟨a, vs, rfl, h1, d1⟩ := by'.lst
      obtain ⟨rfl, f1⟩ := bx.flat hs.1
      obtain ⟨rfl, f2⟩ := d1.flat hs.2
      exact ⟨a, _, rfl, .inl (sq_of h1), f1, f2, nw_now q (.bl _)⟩
    · cases e
  · split at e
    · rename_i hs
      rw [Bool.and_eq_true] at hs
      cases e
      obtain ⟨a, vs, rfl, h1, d1, _⟩ := by'.tup
      obtain ⟨rfl, f1⟩ := bx.flat hs.1
      obtain ⟨rfl, f2⟩ := d1.flat hs.2
      exact ⟨a, _, rfl, .inr (st_of h1), f1, f2, nw_now q (.bl _)⟩
    · cases e
  · cases e
/-! ### subscripts -/
theorem atI_dv {O : Addr → Prop} {H : Hp} {vs : List V} {ds : List PyData} {i : Int} {d : PyData} (h : DvL O H vs ds) (e : atI ds i = some d) : ∃ v, atI vs i = some v ∧ Dv O H v d := by
  unfold atI at e ⊢
  rw [h.length]
  cases ei : ixN ds.length i with
  | none => rw [ei] at e; cases e
  | some j =>
    rw [ei] at e
    exact h.get e
def gIx : PyData → PyData → Option PyData
  | .list ds, .int i => atI ds i
  | .tuple ds, .int i => atI ds i
  | _, _ => none
theorem l_ix {K : PySem.W.Frag} : Op2 (fun x y H Q => rIxL K x y H Q ∨ rIxT K x y H Q) gIx := by
  intro O H x y dx dy z Q al bx by' e q
  unfold gIx at e
  split at e
  · obtain ⟨a, vs, rfl, h1, d1⟩ := bx.lst
    obtain ⟨v, e1, e2⟩ := atI_dv d1 e
    exact .inl ⟨a, vs, _, v, rfl, by'.int, sq_of h1, e1, nw_now q e2⟩
  · obtain ⟨a, vs, rfl, h1, d1, _⟩ := bx.tup
    obtain ⟨v, e1, e2⟩ := atI_dv d1 e
    exact .inr ⟨a, vs, _, v, rfl, by'.int, st_of h1, e1, nw_now q e2⟩
  · cases e
theorem pd_ix {a b : Expr} {ta tb : TD} {pos : Pos} (ha : PB X G a ta) (hb : PB X G b tb) (hs : PlainIx b) : PD X G (.Subscript a b pos) (dOp gIx ta tb) := PE.wk (pe_ix (ix_list.or ix_tup) ha hb hs) (dop l_ix)
theorem un_core {g : PyData → Option PyData} {ta : TD} {r : V → Hp → VK → Prop} (l : ∀ (O : Addr → Prop) (H : Hp) (x : V) (dx z : PyData) (Q : VK), (∀ a, O a → H a ≠ none) → Bw O H x dx → g dx = some z → Nw O H z Q → r x H Q) :
    ∀ σ H Q, low G RD (fun E Q => ta E fun x n => opt (g x) fun z => Q z n) σ H Q → tUn r (low G (RB G) ta) σ H Q := by
  rintro σ H Q ⟨O, E, Qd, rl, im, z⟩
  refine ⟨O, E, _, rl, ?_, z⟩
  rintro dx n x H1 k1 i1 rx q1
  have r1 := rl.step k1 i1
  obtain ⟨w, e, q⟩ := opt_el q1
  refine l O H1 x dx w Q r1.al rx.bw e (fun v H' s rv => ?_)
  obtain ⟨k3, i3⟩ := r1.fin s
  exact im w n v H' (k1.trans k3) i3 rv q
def dUn (g : PyData → Option PyData) (ta : TD) : TD := fun E Q => ta E fun x n => opt (g x) fun z => Q z n
def gNeg : PyData → Option PyData
  | .int i => some (.int (-i))
  | _ => none
theorem pd_neg {a : Expr} {ta : TD} {pos : Pos} (ha : PB X G a ta) : PD X G (.UnaryOp .USub a pos) (dUn gNeg ta) := PE.wk (pe_un un_neg ha) (un_core fun O H x dx z Q al bx e q => by
  unfold gNeg at e
  split at e
  · cases e; exact ⟨_, bx.int, nw_now q (.int _)⟩
  · cases e)
end
end Dl
namespace Dl
open PySem PySem.Spec PyProof.Rows L2 Gd
section
variable {X : Cx} {G : Gx}
/-! ### argument lists, displays -/
theorem ArR.later {O O' : Addr → Prop} {H H' : Hp} {v : V} {a : Ar} (L : Later O H O' H') (h : ArR O H v a) : ArR O' H' v a := by
  cases a with
  | d x => exact Dv.later L h
  | c u => exact h
def aNil : TDa := fun E Q => Q [] E.n
def aCons (t : TD) (ts : TDa) : TDa := fun E Q => t E fun d n => ts ⟨E.ρ, n⟩ fun as m => Q (.d d :: as) m
def aCon (i : Nat) (ts : TDa) : TDa := fun E Q => match E.ρ[i]? with | some (.con v) => ts E fun as m => Q (.c v :: as) m | _ => False
theorem pr_nil : PR X G [] aNil := PA.wk pa_nil fun σ H Q ⟨O, E, Qd, r, im, z⟩ => im [] E.n [] H (Kp.refl H) r.str .nil z
theorem pr_cons {e : Expr} {es : List Expr} {t : TD} {ts : TDa} (h : PD X G e t) (hs : PR X G es ts) (hst : starEach (e :: es) X.env = (false, eval e X.env) :: starEach es X.env := by rfl) : PR X G (e :: es) (aCons t ts) := PA.wk (pa_cons h hs hst) fun σ H Q ⟨O, E, Qd, r, im, z⟩ => by
  refine ⟨O, E, _, r, ?_, z⟩
  rintro d n v H1 k1 i1 rv q1
  have r1 := r.step k1 i1
  refine ⟨O, _, _, r1, ?_, q1⟩
  rintro as m vs H2 k2 i2 rvs q2
  exact im _ m _ H2 (k1.trans k2) i2 (.cons (show ArR O H2 v (.d d) from Dv.later (r1.lt k2) rv) rvs) q2
theorem pr_con {i : Nat} {x : Str} {pos : Pos} {es : List Expr} {ts : TDa} (h : PE X (.Name x pos) (tVar i)) (hs : PR X G es ts) (hst : starEach (.Name x pos :: es) X.env = (false, eval (.Name x pos) X.env) :: starEach es X.env := by rfl) : PR X G (.Name x pos :: es) (aCon i ts) := PA.wk (pa_cons h hs hst) fun σ H Q ⟨O, E, Qd, r, im, z⟩ => by
  unfold aCon at z
  split at z
  · rename_i v e
    refine ⟨v, r.con i v e, O, E, _, r, ?_, z⟩
    rintro as m vs H2 k2 i2 rvs q2
    exact im _ m _ H2 k2 i2 (.cons (show ArR O H2 v (.c v) from rfl) rvs) q2
  · exact z.elim
def dats : List Ar → Option (List PyData)
  | [] => some []
  | .d x :: r => (dats r).map (x :: ·)
  | .c _ :: _ => none
theorem dats_dv {O : Addr → Prop} {H : Hp} : ∀ {vs : List V} {as : List Ar} {ds : List PyData}, Paired (ArR O H) vs as → dats as = some ds → DvL O H vs ds
  | _, _, _, .nil, e => by cases e; exact .nil
  | _, _, _, .cons (b := .d x) r t, e => by
    rw [dats, Option.map_eq_some_iff] at e
    obtain ⟨ds, e1, rfl⟩ := e
    exact .cons r (dats_dv t e1)
  | _, _, _, .cons (b := .c v) r t, e => by cases e
def dTup (ts : TDa) : TD := fun E Q => ts E fun as n => opt (dats as) fun ds => decide (ds.length ≤ 100000) = true ∧ Q (.tuple ds) n
def dLst (ts : TDa) : TD := fun E Q => ts E fun as n => opt (dats as) fun ds => decide (ds.length ≤ 100000) = true ∧ Q (.list ds) n
theorem pd_tup {es : List Expr} {ts : TDa} {pos : Pos} {x1} (h : PR X G es ts) : PD X G (.Tuple es x1 pos) (dTup ts) := PE.wk (pe_tup h) fun σ H Q ⟨O, E, Qd, r, im, z⟩ => by
  refine ⟨O, E, _, r, ?_, z⟩
  rintro as n vs H1 k1 i1 rv q1
  obtain ⟨ds, e, hl, q⟩ := opt_el q1
  have d := dats_dv rv e
  have r1 := r.step k1 i1
  refine ⟨sz_of (by rw [d.length]; exact of_decide_eq_true hl), fun p hp => ?_⟩
  refine nw_tup (Q := Q) r1.al (fun v H' s dv => ?_) hp d
  obtain ⟨k3, i3⟩ := r1.fin s
  exact im _ n v H' (k1.trans k3) i3 dv q
theorem pl_lst {es : List Expr} {ts : TDa} {pos : Pos} (h : PR X G es ts) : PL X G (.List es pos) (dLst ts) := PE.wk (pe_lst h) fun σ H Q ⟨O, E, Qd, r, im, z⟩ => by
  refine ⟨O, E, _, r, ?_, z⟩
  rintro as n vs H1 k1 i1 rv q1
  obtain ⟨ds, e, hl, q⟩ := opt_el q1
  have d := dats_dv rv e
  have r1 := r.step k1 i1
  refine ⟨sz_of (by rw [d.length]; exact of_decide_eq_true hl), fun p hp => ?_⟩
  refine nw_lst (Q := Q) (O := O) (fun v H' s ⟨a, us, es, e1, e2, e3, e4, e5⟩ => ?_) hp d
  obtain ⟨k3, i3⟩ := r1.fin s
  refine im _ n v H' (k1.trans k3) i3 ⟨a, us, es, e1, e2, ?_, e4, e5⟩ q
  cases e0 : H a with
  | none => rfl
  | some u =>
    by_cases qs : G.F.S a
    · exact (G.F.al n H1 a i1 qs e3).elim
    · rw [k1 a u e0 qs] at e3
      cases e3
/-! ### calls -/
def Cl1 (r : List V → Hp → VK → Prop) (g : PyData → Option PyData) : Prop := ∀ (O : Addr → Prop) (H : Hp) (x : V) (dx z : PyData) (Q : VK), (∀ a, O a → H a ≠ none) → Bw O H x dx → g dx = some z → Nw O H z Q → r [x] H Q
def Cl1L (r : List V → Hp → VK → Prop) (g : PyData → Option PyData) : Prop := ∀ (O : Addr → Prop) (H : Hp) (x : V) (dx z : PyData) (Q : VK), (∀ a, O a → H a ≠ none) → Bw O H x dx → g dx = some z → NwL O H z Q → r [x] H Q
theorem cl1 {g : PyData → Option PyData} {ta : TD} {r : List V → Hp → VK → Prop} (l : Cl1 r g) : ∀ σ H Q, low G RD (dUn g ta) σ H Q → tCB r (tCons (low G (RB G) ta) tNil) σ H Q :=
  un_core (r := fun x H Q => r [x] H Q) l
theorem cl1L {g : PyData → Option PyData} {ta : TD} {r : List V → Hp → VK → Prop} (l : Cl1L r g) : ∀ σ H Q, low G RL (dUn g ta) σ H Q → tCB r (tCons (low G (RB G) ta) tNil) σ H Q := by
  rintro σ H Q ⟨O, E, Qd, rl, im, z⟩
  refine ⟨O, E, _, rl, ?_, z⟩
  rintro dx n x H1 k1 i1 rx q1
  have r1 := rl.step k1 i1
  obtain ⟨w, e, q⟩ := opt_el q1
  refine l O H1 x dx w Q r1.al rx.bw e (fun v H' s ⟨a, us, es, e1, e2, e3, e4, e5⟩ => ?_)
  obtain ⟨k3, i3⟩ := r1.fin s
  refine im w n v H' (k1.trans k3) i3 ⟨a, us, es, e1, e2, ?_, e4, e5⟩ q
  cases e0 : H a with
  | none => rfl
  | some u =>
    by_cases qs : G.F.S a
    · exact (G.F.al n H1 a i1 qs e3).elim
    · rw [k1 a u e0 qs] at e3
      cases e3
def gLen : PyData → Option PyData
  | .list ds => some (.int (ds.length : Nat))
  | .tuple ds => some (.int (ds.length : Nat))
  | _ => none
theorem l_len {K : PySem.W.Frag} : Cl1 (fun xs H Q => ∃ p ys, xs = [.ref p] ∧ (SqL K H p ys ∨ SqT K H p ys) ∧ Q (.int ys.length) H) gLen := by
  intro O H x dx z Q al bx e q
  unfold gLen at e
  split at e
  · cases e
    obtain ⟨a, vs, rfl, h1, d1⟩ := bx.lst
    refine ⟨a, vs, rfl, .inl (sq_of h1), nw_now q ?_⟩
    rw [d1.length]
    exact .int _
  · cases e
    obtain ⟨a, vs, rfl, h1, d1, _⟩ := bx.tup
    refine ⟨a, vs, rfl, .inr (st_of h1), nw_now q ?_⟩
    rw [d1.length]
    exact .int _
  · cases e
theorem pd_len {a : Expr} {ta : TD} {p pos : Pos} (ha : PB X G a ta) (hm : X.mg "len" = none) (hg : Gl X "len" := by rfl) (hs : starEach [a] X.env = (false, eval a X.env) :: starEach [] X.env := by rfl) : PD X G (.Call (.Name "len" p) [a] [] pos) (dUn gLen ta) :=
  PE.wk (pe_callB call_len_seq hg hm PySem.boot_len (pa_cons ha pa_nil hs) (he := hs)) (cl1 l_len)
def gTupD : PyData → Option PyData
  | .list ds => some (.tuple ds)
  | .tuple ds => some (.tuple ds)
  | _ => none
theorem l_tuple {K : PySem.W.Frag} : Cl1 (fun xs H Q => ∃ p ys, xs = [.ref p] ∧ ((SqL K H p ys ∧ ∀ l, H l = none → Q (.ref l) (upd H l (.tup ys))) ∨ (SqT K H p ys ∧ Q (.ref p) H))) gTupD := by
  intro O H x dx z Q al bx e q
  unfold gTupD at e
  split at e
  · cases e
    obtain ⟨a, vs, rfl, h1, d1⟩ := bx.lst
    exact ⟨a, vs, rfl, .inl ⟨sq_of h1, fun p hp => nw_tup al q hp d1⟩⟩
  · cases e
    obtain ⟨a, vs, rfl, h1, d1, w⟩ := bx.tup
    exact ⟨a, vs, rfl, .inr ⟨st_of h1, nw_now q w⟩⟩
  · cases e
theorem pd_tuple {a : Expr} {ta : TD} {p pos : Pos} (ha : PB X G a ta) (hm : X.mg "tuple" = none) (hg : Gl X "tuple" := by rfl) (hs : starEach [a] X.env = (false, eval a X.env) :: starEach [] X.env := by rfl) : PD X G (.Call (.Name "tuple" p) [a] [] pos) (dUn gTupD ta) :=
  PE.wk (pe_callTy call_tuple_of hg hm (by decide +kernel) (pa_cons ha pa_nil hs) (he := hs)) (cl1 l_tuple)
def gList : PyData → Option PyData
  | .list ds => some (.list ds)
  | .tuple ds => some (.list ds)
  | _ => none
theorem l_list {K : PySem.W.Frag} : Cl1L (fun xs H Q => ∃ p ys, xs = [.ref p] ∧ (SqL K H p ys ∨ SqT K H p ys) ∧ ∀ l, H l = none → Q (.ref l) (upd H l (.lst ys))) gList := by
  intro O H x dx z Q al bx e q
  unfold gList at e
  split at e
  · cases e
    obtain ⟨a, vs, rfl, h1, d1⟩ := bx.lst
    exact ⟨a, vs, rfl, .inl (sq_of h1), fun p hp => nw_lst q hp d1⟩
  · cases e
    obtain ⟨a, vs, rfl, h1, d1, w⟩ := bx.tup
    exact ⟨a, vs, rfl, .inr (st_of h1), fun p hp => nw_lst q hp d1⟩
  · cases e
theorem pl_list {a : Expr} {ta : TD} {p pos : Pos} (ha : PB X G a ta) (hm : X.mg "list" = none) (hg : Gl X "list" := by rfl) (hs : starEach [a] X.env = (false, eval a X.env) :: starEach [] X.env := by rfl) : PL X G (.Call (.Name "list" p) [a] [] pos) (dUn gList ta) :=
  PE.wk (pe_callTy call_list_of hg hm (by decide +kernel) (pa_cons ha pa_nil hs) (he := hs)) (cl1L l_list)
/-- repr, where no repr is under way -/
def gRepr (d : PyData) : Option PyData := if d.showable && decide (d.shown.length ≤ sizeLine) && decide (d.depth ≤ 60) then some (.str d.shown) else none
theorem l_repr : Cl1 (rRepr (fun _ => False)) gRepr := by
  intro O H x dx z Q al bx e q
  unfold gRepr at e
  split at e
  · cases e
    rename_i h
    rw [Bool.and_eq_true, Bool.and_eq_true] at h
    refine ⟨x, dx, rfl, ?_, h.1.1, of_decide_eq_true h.1.2, of_decide_eq_true h.2, nw_now q (.str _)⟩
    rcases bx with h | ⟨a, vs, ds, e1, e2, e3, e4⟩
    · exact Dv.less' (fun _ z => z.elim) h
    · subst e1 e2
      exact Dv.mkL e3 id (e4.mp fun _ _ z => Dv.less' (fun _ y => y.elim) z)
  · cases e
theorem pd_repr {a : Expr} {ta : TD} {p pos : Pos} (hg' : X.A.guards = some []) (hu : X.A.units + 64 < cLine) (ha : PB X G a ta) (hm : X.mg "repr" = none) (hg : Gl X "repr" := by rfl) (hs : starEach [a] X.env = (false, eval a X.env) :: starEach [] X.env := by rfl) : PD X G (.Call (.Name "repr" p) [a] [] pos) (dUn gRepr ta) :=
  PE.wk (pe_callB (call_repr hg' hu) hg hm (by decide +kernel) (pa_cons ha pa_nil hs) (he := hs)) (cl1 l_repr)
/-- two arguments -/
def Cl2 (r : List V → Hp → VK → Prop) (g : PyData → PyData → Option PyData) : Prop := Op2 (fun x y H Q => r [x, y] H Q) g
theorem cl2 {g : PyData → PyData → Option PyData} {ta tb : TD} {r : List V → Hp → VK → Prop} (l : Cl2 r g) : ∀ σ H Q, low G RD (dOp g ta tb) σ H Q → tCB r (tCons (low G (RB G) ta) (tCons (low G (RB G) tb) tNil)) σ H Q :=
  dop (r := fun x y H Q => r [x, y] H Q) l
abbrev gMax2 := gI fun i j => .int (if j > i then j else i)
abbrev gMin2 := gI fun i j => .int (if j < i then j else i)
theorem pd_max2 {a b : Expr} {ta tb : TD} {p pos : Pos} (hc : X.calm = true) (ha : PB X G a ta) (hb : PB X G b tb) (hm : X.mg "max" = none) (hg : Gl X "max" := by rfl) (hs : starEach [a, b] X.env = (false, eval a X.env) :: starEach [b] X.env := by rfl) (hs2 : starEach [b] X.env = (false, eval b X.env) :: starEach [] X.env := by rfl)
    (hpl : (backTo pos (starEach [b] X.env)).any (·.1) = false := by rfl) : PD X G (.Call (.Name "max" p) [a, b] [] pos) (dOp gMax2 ta tb) :=
  PE.wk (pe_callB (call_max2 hc) hg hm (by decide +kernel) (pa_cons ha (pa_cons hb pa_nil hs2) hs) (he := hs) (hpl := hpl)) (cl2 fun O H x y dx dy z Q al bx by' e q => by
    obtain ⟨i, j, rfl, rfl, rfl⟩ := gI_el e
    cases bx.int
    cases by'.int
    exact ⟨i, j, rfl, nw_now q (.int _)⟩)
theorem pd_min2 {a b : Expr} {ta tb : TD} {p pos : Pos} (hc : X.calm = true) (ha : PB X G a ta) (hb : PB X G b tb) (hm : X.mg "min" = none) (hg : Gl X "min" := by rfl) (hs : starEach [a, b] X.env = (false, eval a X.env) :: starEach [b] X.env := by rfl) (hs2 : starEach [b] X.env = (false, eval b X.env) :: starEach [] X.env := by rfl)
    (hpl : (backTo pos (starEach [b] X.env)).any (·.1) = false := by rfl) : PD X G (.Call (.Name "min" p) [a, b] [] pos) (dOp gMin2 ta tb) :=
  PE.wk (pe_callB (call_min2 hc) hg hm (by decide +kernel) (pa_cons ha (pa_cons hb pa_nil hs2) hs) (he := hs) (hpl := hpl)) (cl2 fun O H x y dx dy z Q al bx by' e q => by
    obtain ⟨i, j, rfl, rfl, rfl⟩ := gI_el e
    cases bx.int
    cases by'.int
    exact ⟨i, j, rfl, nw_now q (.int _)⟩)
/-- a def's promise over data -/
abbrev Con := Fr → List Ar → Nat → (PyData → Nat → Prop) → Prop
def spD (C : Con) (m : Nat) : Sp := fun vs H Q _ => vs.length = m ∧ ∃ (F : Fr) (B : Addr → Prop) (as : List Ar) (n : Nat) (Qd : PyData → Nat → Prop), (∀ x, F.S x → B x) ∧ (∀ x, B x → H x ≠ none) ∧ Paired (ArR B H) vs as ∧ F.I n H ∧
  (∀ d n v H', Kp F.S H H' → F.I n H' → Dv B H' v d → Qd d n → Q v H') ∧ C F as n Qd
def pu (f : List PyData → Option PyData) : Con := fun _ as n Q => opt (dats as) fun ds => opt (f ds) fun d => Q d n
def dCall (F : Fr) (C : Con) (m : Nat) (ts : TDa) : TD := fun E Q => ts E fun as n => as.length = m ∧ C F as n Q
theorem pd_call {k m : Nat} {f : Addr} {fd : FuncData} {ps : List Str} {C : Con} {x : Str} {p pos : Pos} {e : Expr} {es : List Expr} {ts : TDa} (F : FnOk X.prog X.w X.K X.mg X.base CX0 k f fd ps (spD C m)) (hr : Room k X.A) (hm : X.mg x = some (.ref f)) (hk : PySem.W.keepIn X.K (.ref f) = true) (hb : Binds X.K fd ps [])
    (ha : PR X G (e :: es) ts) (hg : Gl X x := by rfl) (hdb : (x == ("__debug__" : Str)) = false := by decide) (he : starEach (e :: es) X.env = (false, eval e X.env) :: starEach es X.env := by rfl) (hpl : (backTo pos (starEach es X.env)).any (·.1) = false := by rfl) :
    PD X G (.Call (.Name x p) (e :: es) [] pos) (dCall G.F C m ts) := PE.wk (pe_call F hr hg hm hk hb .nil pass0 ha hdb he hpl) fun σ H Q ⟨O, E, Qd, r, im, z⟩ => by
  refine ⟨O, E, _, r, ?_, z⟩
  rintro as n vs H1 k1 i1 rv ⟨q0, q1⟩
  have r1 := r.step k1 i1
  rw [List.append_nil]
  exact ⟨rv.length.trans q0, G.F, O, as, n, _, r.sO, r1.al, rv, i1, fun d n' v H' k2 i2 dv q2 => im d n' v H' (k1.trans k2) i2 dv q2, q1⟩
/-! ### conditions -/
def dIf (tt : TDt) (ta tb : TD) : TD := fun E Q => tt E fun b n => if b = true then ta ⟨E.ρ, n⟩ Q else tb ⟨E.ρ, n⟩ Q
theorem px_if {R : RR} {c a b : Expr} {tt : TDt} {ta tb : TD} {pos : Pos} (up : ∀ {O : Addr → Prop} {H H1 H2 : Hp} {v : V} {d : PyData}, (∀ x, H x ≠ none → H1 x ≠ none) → R O H1 H2 v d → R O H H2 v d) (hc : PQ X G c tt) (ha : PE X a (low G R ta)) (hb : PE X b (low G R tb)) : PE X (.IfExp c a b pos) (low G R (dIf tt ta tb)) := PE.wk (pe_ifExp hc ha hb) fun σ H Q ⟨O, E, Qd, r, im, z⟩ => by
  refine ⟨O, E, _, r, ?_, z⟩
  rintro c n H1 k1 i1 q1
  have r1 := r.step k1 i1
  have u : ∀ x, H x ≠ none → H1 x ≠ none := fun x h0 => by
    by_cases qs : G.F.S x
    · exact G.F.al n H1 x i1 qs
    · cases e0 : H x with
      | none => exact (h0 e0).elim
      | some o => rw [k1 x o e0 qs]; exact fun y => by cases y
  cases c with
  | true =>
    refine iteT ?_
    rw [if_pos rfl] at q1
    exact ⟨O, _, _, r1, fun d m v H' k2 i2 rv q2 => im d m v H' (k1.trans k2) i2 (up u rv) q2, q1⟩
  | false =>
    refine iteF ?_
    rw [if_neg (by decide)] at q1
    exact ⟨O, _, _, r1, fun d m v H' k2 i2 rv q2 => im d m v H' (k1.trans k2) i2 (up u rv) q2, q1⟩
theorem pd_if {c a b : Expr} {tt : TDt} {ta tb : TD} {pos : Pos} (hc : PQ X G c tt) (ha : PD X G a ta) (hb : PD X G b tb) : PD X G (.IfExp c a b pos) (dIf tt ta tb) := px_if (fun _ h => h) hc ha hb
def qAnd (t u : TDt) : TDt := fun E Q => t E fun b n => if b = true then u ⟨E.ρ, n⟩ Q else Q false n
def qOr (t u : TDt) : TDt := fun E Q => t E fun b n => if b = true then Q true n else u ⟨E.ρ, n⟩ Q
def qNot (t : TDt) : TDt := fun E Q => t E fun b n => Q (!b) n
abbrev PWd (X : Cx) (G : Gx) (e : Expr) (t : TDt) : Prop := PW X e (lowT G t)
theorem PW.wk {e : Expr} {t u : TT} (h : PW X e t) (k : ∀ σ H Q, u σ H Q → t σ H Q) : PW X e u := ⟨fun w p s σ H Q I z => h.run w p s σ H Q I (k σ H Q z)⟩
theorem w_and {a b : Expr} {rest : List Expr} {t u : TDt} {pos : Pos} (ha : PQ X G a t) (hb : PWd X G (.BoolOp .And (b :: rest) pos) u) : PWd X G (.BoolOp .And (a :: b :: rest) pos) (qAnd t u) := PW.wk (pw_and ha hb) fun σ H Q ⟨O, E, Qd, r, im, z⟩ => by
  refine ⟨O, E, _, r, ?_, z⟩
  rintro c n H1 k1 i1 q1
  have r1 := r.step k1 i1
  cases c with
  | true =>
    refine iteT ?_
    rw [if_pos rfl] at q1
    exact ⟨O, _, _, r1, fun b m H' k2 i2 q2 => im b m H' (k1.trans k2) i2 q2, q1⟩
  | false =>
    refine iteF ?_
    rw [if_neg (by decide)] at q1
    exact im _ n H1 k1 i1 q1
theorem w_or {a b : Expr} {rest : List Expr} {t u : TDt} {pos : Pos} (ha : PQ X G a t) (hb : PWd X G (.BoolOp .Or (b :: rest) pos) u) : PWd X G (.BoolOp .Or (a :: b :: rest) pos) (qOr t u) := PW.wk (pw_or ha hb) fun σ H Q ⟨O, E, Qd, r, im, z⟩ => by
  refine ⟨O, E, _, r, ?_, z⟩
  rintro c n H1 k1 i1 q1
  have r1 := r.step k1 i1
  cases c with
  | true =>
    refine iteT ?_
    rw [if_pos rfl] at q1
    exact im _ n H1 k1 i1 q1
  | false =>
    refine iteF ?_
    rw [if_neg (by decide)] at q1
    exact ⟨O, _, _, r1, fun b m H' k2 i2 q2 => im b m H' (k1.trans k2) i2 q2, q1⟩
theorem w_and1 {a : Expr} {t : TDt} {pos : Pos} (ha : PQ X G a t) : PWd X G (.BoolOp .And [a] pos) t := pw_and1 ha
theorem w_or1 {a : Expr} {t : TDt} {pos : Pos} (ha : PQ X G a t) : PWd X G (.BoolOp .Or [a] pos) t := pw_or1 ha
theorem pq_not {a : Expr} {t : TDt} {pos : Pos} (ha : PQ X G a t) : PQ X G (.UnaryOp .Not a pos) (qNot t) := PT.wk (pt_not ha) fun σ H Q ⟨O, E, Qd, r, im, z⟩ => ⟨O, E, _, r, fun b n H' k i q => im (!b) n H' k i q, z⟩
theorem pq_val {e : Expr} {t : TD} (h : PD X G e t) (he : ∀ whole, isTrue e X.env whole = (do let v ← whole; standAt e.pos; holding [v] (truthy v)) := by intro _; rfl) : PQ X G e (dTest t) := PT.wk (pt_val h he) (low_test fun _ _ _ z => z)
def vAnd (t u : TD) : TD := fun E Q => t E fun d n => match d with | .bool true => u ⟨E.ρ, n⟩ Q | .bool false => Q (.bool false) n | _ => False
def vOr (t u : TD) : TD := fun E Q => t E fun d n => match d with | .bool true => Q (.bool true) n | .bool false => u ⟨E.ρ, n⟩ Q | _ => False
def vNot (t : TD) : TD := fun E Q => t E fun d n => match d with | .bool b => Q (.bool (!b)) n | _ => False
theorem pd_one {op : BoolOp} {a : Expr} {t : TD} {pos : Pos} (h : PD X G a t) : PD X G (.BoolOp op [a] pos) t := pe_one h
theorem pd_and {a b : Expr} {rest : List Expr} {t u : TD} {pos : Pos} (ha : PD X G a t) (hb : PD X G (.BoolOp .And (b :: rest) pos) u) : PD X G (.BoolOp .And (a :: b :: rest) pos) (vAnd t u) := PE.wk (pe_and ha hb) fun σ H Q ⟨O, E, Qd, r, im, z⟩ => by
  refine ⟨O, E, _, r, ?_, z⟩
  rintro d n v H1 k1 i1 rv q1
  have r1 := r.step k1 i1
  cases rv with
  | bl c =>
    refine ⟨c, rfl, ?_⟩
    cases c with
    | true => exact iteT ⟨O, _, _, r1, fun b m v H' k2 i2 x q2 => im b m v H' (k1.trans k2) i2 x q2, q1⟩
    | false => exact iteF (im _ n _ H1 k1 i1 (.bl false) q1)
  | _ => exact q1.elim
theorem pd_or {a b : Expr} {rest : List Expr} {t u : TD} {pos : Pos} (ha : PD X G a t) (hb : PD X G (.BoolOp .Or (b :: rest) pos) u) : PD X G (.BoolOp .Or (a :: b :: rest) pos) (vOr t u) := PE.wk (pe_or ha hb) fun σ H Q ⟨O, E, Qd, r, im, z⟩ => by
  refine ⟨O, E, _, r, ?_, z⟩
  rintro d n v H1 k1 i1 rv q1
  have r1 := r.step k1 i1
  cases rv with
  | bl c =>
    refine ⟨c, rfl, ?_⟩
    cases c with
    | true => exact iteT (im _ n _ H1 k1 i1 (.bl true) q1)
    | false => exact iteF ⟨O, _, _, r1, fun b m v H' k2 i2 x q2 => im b m v H' (k1.trans k2) i2 x q2, q1⟩
  | _ => exact q1.elim
theorem pd_not {a : Expr} {t : TD} {pos : Pos} (ha : PD X G a t) : PD X G (.UnaryOp .Not a pos) (vNot t) := PE.wk (pe_not ha) fun σ H Q ⟨O, E, Qd, r, im, z⟩ => by
  refine ⟨O, E, _, r, ?_, z⟩
  rintro d n v H1 k1 i1 rv q1
  cases rv with
  | bl c => exact ⟨c, rfl, im _ n _ H1 k1 i1 (.bl _) q1⟩
  | _ => exact q1.elim

/-! ### statements -/
def zSeq (t u : TSd) : TSd := fun D E => t { D with nx := u D } E
def zNil : TSd := fun D E => D.nx E
def zSet (i : Nat) (t : TD) : TSd := fun D E => t E fun d n => D.nx ⟨E.ρ.set i (.dat d), n⟩
def zOwn (i : Nat) (t : TD) : TSd := fun D E => t E fun d n => match d with | .list ds => D.nx ⟨E.ρ.set i (.own ds), n⟩ | _ => False
def zMove (i j : Nat) : TSd := fun D E => match E.ρ[j]? with | some (.own ds) => D.nx ⟨(E.ρ.set j .no).set i (.own ds), E.n⟩ | some (.dat d) => D.nx ⟨E.ρ.set i (.dat d), E.n⟩ | _ => False
def zRet (t : TD) : TSd := fun D E => t E D.rt
def zIf (tt : TDt) (t u : TSd) : TSd := fun D E => tt E fun b n => if b = true then t D ⟨E.ρ, n⟩ else u D ⟨E.ρ, n⟩
theorem zs_nil : PZs X G [] zNil := PSs.wk pss_nil fun D σ H ⟨O, E, Dd, r, k, z⟩ => k.nx O σ H E (Later.refl O H) r z
theorem zs_cons {st : Stmt} {rest : List Stmt} {t u : TSd} (h1 : PZ X G st t) (h2 : PZs X G rest u) : PZs X G (st :: rest) (zSeq t u) := PSs.wk (pss_cons h1 h2) fun D σ H ⟨O, E, Dd, r, k, z⟩ =>
  ⟨O, E, { Dd with nx := u Dd }, r, ⟨fun O' σ' H' E' l r' q => ⟨O', E', Dd, r', k.later l, q⟩, k.rt, k.bk, k.ct⟩, z⟩
theorem zs_one {st : Stmt} {t : TSd} (h1 : PZ X G st t) : PZs X G [st] t := pss_one h1
theorem z_set {i : Nat} {x : Str} {e : Expr} {t : TD} {pos pos' : Pos} (hN : X.N.Nodup) (hi : X.N[i]? = some x) (hx : Loc X.env.scope x) (he : PD X G e t) (hs : swapsWith e (some (.Name x pos')) pos.line X.env = pure false := by rfl) (hf : X.fn x = true ∨ X.env.scope.names.lookup x = some .local := by first | exact .inl rfl | exact .inr rfl | assumption) :
    PZ X G (.Assign [.Name x pos'] e pos) (zSet i t) := PS.wk (ps_set hN hi hx he hs hf) fun D σ H ⟨O, E, Dd, r, k, z⟩ => by
  refine ⟨O, E, _, r, ?_, z⟩
  rintro d n v H1 k1 i1 rv q1
  exact k.nx O _ H1 _ (r.lt k1) ((r.step k1 i1).set rv) q1
theorem own_core {i : Nat} {te : TE} {t : TD} (h : ∀ σ H Q, low G RL t σ H Q → te σ H Q) : ∀ D σ H, lowS G (zOwn i t) D σ H → tAsg te (gName i) D σ H := by
  rintro D σ H ⟨O, E, Dd, r, k, z⟩
  refine h σ H _ ⟨O, E, _, r, ?_, z⟩
  rintro d n v H1 k1 i1 ⟨a, vs, ds, rfl, rfl, e3, e4, e5⟩ q1
  have r1 := r.step k1 i1
  have nO : ¬ O a := fun y => r.al a y e3
  have hs0 : G.Hs a = none := by
    cases e0 : G.Hs a with
    | none => rfl
    | some u =>
      by_cases qs : G.F.S a
      · exact (nO (r.sO a qs)).elim
      · rw [r.kp a u e0 qs] at e3
        cases e3
  have L1 : Later O H (fun x => O x ∨ x = a) H1 := ⟨fun x y => y.elim .inl fun y => .inr (y ▸ e3), fun x u y ny => (r.lt k1).h x u y ny⟩
  have r2 : Rel G (fun x => O x ∨ x = a) σ H1 ⟨E.ρ, n⟩ := by
    refine ⟨r1.len, fun j d e => ?_, fun j es e => ?_, r1.dif, r1.con, i1, fun x y => .inl (r1.bo x y), fun x y => ?_, r1.kp⟩
    · obtain ⟨v, y1, y2⟩ := r.dat j d e
      exact ⟨v, y1, Dv.later L1 y2⟩
    · obtain ⟨b, ws, y1, y2, y3, y4, y5⟩ := r.own j es e
      exact ⟨b, ws, y1, k1 _ _ y2 (fun y => G.hb b (G.sb b y) y4), .inl y3, y4, y5.later L1⟩
    · rcases y with y | y
      · exact r1.al x y
      · subst y
        rw [e4]
        exact fun y => by cases y
  refine k.nx _ _ H1 _ L1 (r2.setOwn e4 hs0 (.inr rfl) e5 fun j dj nj ej y => ?_) q1
  obtain ⟨b, ws, y1, y2, y3, _⟩ := r.own j dj ej
  rw [y] at y1
  cases y1
  exact nO y3
theorem z_own {i : Nat} {x : Str} {e : Expr} {t : TD} {pos pos' : Pos} (hN : X.N.Nodup) (hi : X.N[i]? = some x) (hx : Loc X.env.scope x) (he : PL X G e t) (hs : swapsWith e (some (.Name x pos')) pos.line X.env = pure false := by rfl) (hf : X.fn x = true ∨ X.env.scope.names.lookup x = some .local := by first | exact .inl rfl | exact .inr rfl | assumption) :
    PZ X G (.Assign [.Name x pos'] e pos) (zOwn i t) := PS.wk (ps_set hN hi hx he hs hf) (own_core fun _ _ _ z => z)
theorem z_move {i j : Nat} {x y : Str} {pos pos' p2 : Pos} (hN : X.N.Nodup) (hi : X.N[i]? = some x) (hx : Loc X.env.scope x) (h : PE X (.Name y p2) (tVar j)) (hij : i ≠ j) (hs : swapsWith (.Name y p2) (some (.Name x pos')) pos.line X.env = pure false := by rfl) (hf : X.fn x = true ∨ X.env.scope.names.lookup x = some .local := by first | exact .inl rfl | exact .inr rfl | assumption) :
    PZ X G (.Assign [.Name x pos'] (.Name y p2) pos) (zMove i j) := PS.wk (ps_set hN hi hx h hs hf) fun D σ H ⟨O, E, Dd, r, k, z⟩ => by
  unfold zMove at z
  split at z
  · rename_i ds e
    obtain ⟨a, vs, y1, y2, y3, y4, y5⟩ := r.own j ds e
    refine ⟨_, y1, k.nx O _ H _ (Later.refl O H) ?_ z⟩
    have hjl : j < σ.length := by
      rw [r.len]
      exact (List.getElem?_eq_some_iff.mp e).1
    have r1 := (r.drop (i := j) (o := some (V.ref a)))
    have e2 : σ.set j (some (V.ref a)) = σ := by
      refine List.ext_getElem? fun m => ?_
      rw [List.getElem?_set]
      split
      · rename_i q
        subst q
        first | exact y1.symm | (rw [if_pos hjl]; exact y1.symm)
      · rfl
    rw [e2] at r1
    refine r1.setOwn y2 y4 y3 y5 fun m dm nm em q => ?_
    rw [List.getElem?_set] at em
    by_cases qm : j = m
    · rw [if_pos qm] at em
      split at em <;> cases em
    · rw [if_neg qm] at em
      exact qm (r.dif j m ds dm a e em y1 q)
  · rename_i d e
    obtain ⟨v, y1, y2⟩ := r.dat j d e
    exact ⟨v, y1, k.nx O _ H _ (Later.refl O H) (r.set y2) z⟩
  · exact z.elim
theorem z_ret {e : Expr} {t : TD} {pos : Pos} (he : PB X G e t) : PZ X G (.Return (some e) pos) (zRet t) := PS.wk (ps_ret he) fun D σ H ⟨O, E, Dd, r, k, z⟩ => by
  refine ⟨O, E, _, r, ?_, z⟩
  rintro d n v H1 k1 i1 rv q1
  have r1 := r.step k1 i1
  refine k.rt v H1 d n r1.kp i1 ?_ q1
  rcases rv with h | ⟨a, vs, ds, e1, e2, e3, e4, e5⟩
  · exact Dv.less' r.bo h
  · subst e1 e2
    exact Dv.mkL e3 e5 (e4.mp fun _ _ z => Dv.less' r.bo z)
theorem z_retN {pos : Pos} : PZ X G (.Return none pos) (fun D E => D.rt .none E.n) := PS.wk ps_retN fun D σ H ⟨O, E, Dd, r, k, z⟩ => k.rt .non H .none E.n r.kp r.str .non z
theorem z_if {c : Expr} {a b : List Stmt} {tt : TDt} {t u : TSd} {pos : Pos} (hc : PQ X G c tt) (ha : PZs X G a t) (hb : PZs X G b u) : PZ X G (.If c a b pos) (zIf tt t u) := PS.wk (ps_if hc ha hb) fun D σ H ⟨O, E, Dd, r, k, z⟩ => by
  refine ⟨O, E, _, r, ?_, z⟩
  rintro b n H1 k1 i1 q1
  have r1 := r.step k1 i1
  cases b with
  | true =>
    refine iteT ?_
    rw [if_pos rfl] at q1
    exact ⟨O, _, Dd, r1, k.later (r.lt k1), q1⟩
  | false =>
    refine iteF ?_
    rw [if_neg (by decide)] at q1
    exact ⟨O, _, Dd, r1, k.later (r.lt k1), q1⟩
theorem z_break {pos : Pos} : PZ X G (.Break pos) (fun D E => D.bk E) := PS.wk ps_break fun D σ H ⟨O, E, Dd, r, k, z⟩ => k.bk O σ H E (Later.refl O H) r z
theorem z_cont {pos : Pos} : PZ X G (.Continue pos) (fun D E => D.ct E) := PS.wk ps_continue fun D σ H ⟨O, E, Dd, r, k, z⟩ => k.ct O σ H E (Later.refl O H) r z
/-- x += e of whole numbers -/
def zAug (i : Nat) (g : PyData → PyData → Option PyData) (t : TD) : TSd := fun D E => match E.ρ[i]? with | some (.dat x) => t E fun y n => opt (g x y) fun z => D.nx ⟨E.ρ.set i (.dat z), n⟩ | _ => False
theorem z_aug {i : Nat} {x : Str} {e : Expr} {t : TD} {op : Operator} {f : Int → Int → Int} {pos pos' : Pos} (hN : X.N.Nodup) (hi : X.N[i]? = some x) (hx : Loc X.env.scope x) (he : PD X G e t) (ho : PIp X op (ipI f)) (hf : X.fn x = true ∨ X.env.scope.names.lookup x = some .local := by first | exact .inl rfl | exact .inr rfl | assumption) :
    PZ X G (.AugAssign (.Name x pos') op e pos) (zAug i (gI fun a b => .int (f a b)) t) := PS.wk (ps_aug hN hi hx he ho hf) fun D σ H ⟨O, E, Dd, r, k, z⟩ => by
  unfold zAug at z
  split at z
  · rename_i dx ex
    obtain ⟨v, y1, y2⟩ := r.dat i dx ex
    refine ⟨v, y1, O, E, _, r, ?_, z⟩
    rintro d n w H1 k1 i1 rv q1
    obtain ⟨u, e1, q⟩ := opt_el q1
    obtain ⟨a, b, rfl, rfl, rfl⟩ := gI_el e1
    cases y2
    cases rv
    exact ⟨a, b, rfl, rfl, k.nx O _ H1 _ (r.lt k1) ((r.step k1 i1).set (.int _)) q⟩
  · exact z.elim
/-- xs.append(e), xs a list of one's own -/
def zApp (i : Nat) (t : TD) : TSd := fun D E => match E.ρ[i]? with | some (.own ds) => t E fun d n => ds.length < 100000 ∧ D.nx ⟨E.ρ.set i (.own (ds ++ [d])), n⟩ | _ => False
theorem z_app {i : Nat} {x : Str} {e : Expr} {t : TD} {pos p apos cpos : Pos} (h : PE X (.Name x p) (tVar i)) (he : PD X G e t) (hbase : attributeBase (.Name x p) "append" X.env (eval (.Name x p) X.env) = eval (.Name x p) X.env := by rfl)
    (hfew : ((backTo cpos (starEach [e] X.env)).all (fun x => !x.1) && (backToKw cpos (keywordEach [] X.env)).all (fun x => x.1.isSome) && decide (([e] : List Expr).length + ([] : List Keyword).length + (if ([] : List Keyword).isEmpty then 0 else 1) < 30)) = true := by rfl)
    (hline : (apos.endLine == cpos.line) = true := by rfl) (hst : starEach [e] X.env = (false, eval e X.env) :: starEach [] X.env := by rfl) (hs : swapsWith (.Call (.Attribute (.Name x p) "append" apos) [e] [] cpos) none pos.line X.env = pure false := by rfl) :
    PZ X G (.Expr (.Call (.Attribute (.Name x p) "append" apos) [e] [] cpos) pos) (zApp i t) :=
  PS.wk (ps_expr (pe_bm PySem.F.plainAttrs_list PySem.F.slot_list_append PySem.F.type_list_append mt_append h (pa_cons he pa_nil hst) hbase hfew hline hst) hs) fun D σ H ⟨O, E, Dd, r, k, z⟩ => by
    unfold zApp at z
    split at z
    · rename_i ds eo
      obtain ⟨a, vs, y1, y2, y3, y4, y5⟩ := r.own i ds eo
      refine ⟨_, y1, .inl ⟨rfl, _, sq_of y2⟩, O, E, _, r, ?_, z⟩
      rintro d n v H1 k1 i1 rv ⟨q0, q1⟩
      have r1 := r.step k1 i1
      obtain ⟨a', vs', w1, w2, w3, w4, w5⟩ := r1.own i ds eo
      rw [y1] at w1
      cases w1
      refine ⟨a, vs', v, rfl, rfl, w2, sz_lt (by rw [w5.length]; exact q0), ?_⟩
      obtain ⟨r2, L2⟩ := r1.mut eo y1 y3 y4 (w5.app (.cons rv .nil))
      exact k.nx O _ _ _ ((r.lt k1).trans L2) r2 q1
    · exact z.elim
/-- xs[j] = e -/
def zSetIx (i : Nat) (tj t : TD) : TSd := fun D E => t E fun d n => match E.ρ[i]? with
  | some (.own ds) => tj ⟨E.ρ, n⟩ fun j m => (match j with | .int k => opt (ixN ds.length k) fun p => D.nx ⟨E.ρ.set i (.own (ds.set p d)), m⟩ | _ => False)
  | _ => False
theorem z_setix {i : Nat} {x : Str} {e j : Expr} {t tj : TD} {pos p spos : Pos} (h : PE X (.Name x p) (tVar i)) (hj : PD X G j tj) (he : PD X G e t)
    (ha : ∀ v, assign (.Subscript (.Name x p) j spos) X.env v = (do
      let ov ← holding [v] (eval (.Name x p) X.env)
      let iv ← holding [v, ov] (eval j X.env)
      standAt spos
      holding [v, ov, iv] (setItem ov iv v)
      release [v, ov, iv] []) := by intro _; rfl)
    (hs : swapsWithSole [.Subscript (.Name x p) j spos] e pos.line X.env = pure false := by rfl) (hw : swappedStores [.Subscript (.Name x p) j spos] e X.env = pure none := by rfl)
    (h1 : (assignEach [.Subscript (.Name x p) j spos] X.env).map (·.2) = [assign (.Subscript (.Name x p) j spos) X.env] := by rfl) : PZ X G (.Assign [.Subscript (.Name x p) j spos] e pos) (zSetIx i tj t) :=
  PS.wk (ps_asg he (pg_sub h hj set_list ha) hs hw h1) fun D σ H ⟨O, E, Dd, r, k, z⟩ => by
    refine ⟨O, E, _, r, ?_, z⟩
    rintro d n v H1 k1 i1 rv q1
    have r1 := r.step k1 i1
    split at q1
    · rename_i ds eo
      obtain ⟨a, vs, y1, y2, y3, y4, y5⟩ := r1.own i ds eo
      refine ⟨_, y1, O, _, _, r1, ?_, q1⟩
      rintro dj m w H2 k2 i2 rw' q2
      have r2 := r1.step k2 i2
      split at q2
      · rename_i kk
        obtain ⟨pp, e1, q3⟩ := opt_el q2
        obtain ⟨a', vs', w1, w2, w3, w4, w5⟩ := r2.own i ds eo
        rw [y1] at w1
        cases w1
        cases rw'
        refine ⟨a, vs', kk, pp, rfl, rfl, w2, by rw [w5.length]; exact e1, ?_⟩
        obtain ⟨r3, L3⟩ := r2.mut eo y1 y3 y4 (w5.setL (Dv.later (r1.lt k2) rv) pp)
        exact k.nx O _ _ _ (((r.lt k1).trans (r1.lt k2)).trans L3) r3 q3
      · exact q2.elim
    · exact q1.elim
/-! ### targets: a name, or a tuple of names -/
inductive Tg
  | nm (i : Nat)
  | tp (js : List Nat)
  | np (i : Nat) (js : List Nat)
def setsS : L2.St → List Nat → List V → L2.St
  | σ, i :: js, v :: vs => setsS (σ.set i (some v)) js vs
  | σ, _, _ => σ
def setsD : List Sl → List Nat → List PyData → List Sl
  | ρ, i :: js, d :: ds => setsD (ρ.set i (.dat d)) js ds
  | ρ, _, _ => ρ
def Tg.put : Tg → PyData → List Sl → Option (List Sl)
  | .nm i, d, ρ => some (ρ.set i (.dat d))
  | .tp js, .tuple ds, ρ => if ds.length = js.length then some (setsD ρ js ds) else none
  | .tp _, _, _ => none
  | .np i js, .tuple [d0, .tuple ds], ρ => if ds.length = js.length then some (setsD (ρ.set i (.dat d0)) js ds) else none
  | .np _ _, _, _ => none
def gcs : List Nat → TGs
  | [] => gNil
  | i :: js => gCons (gName i) (gcs js)
def Tg.g (K : PySem.W.Frag) : Tg → TG
  | .nm i => gName i
  | .tp js => gTup K js.length (gcs js)
  | .np i js => gTup K 2 (gCons (gName i) (gCons (gTup K js.length (gcs js)) gNil))
theorem gcs_ok {H : Hp} {Q : L2.St → Hp → Prop} : ∀ (js : List Nat) (vs : List V) (σ : L2.St), vs.length = js.length → Q (setsS σ js vs) H → gcs js vs σ H Q
  | [], [], σ, _, q => ⟨rfl, q⟩
  | [], _ :: _, _, l, _ => by cases l
  | _ :: _, [], _, l, _ => by cases l
  | i :: js, v :: vs, σ, l, q => ⟨v, vs, rfl, gcs_ok js vs _ (Nat.succ.inj l) q⟩
theorem rel_sets {O : Addr → Prop} {H : Hp} : ∀ (js : List Nat) (vs : List V) (ds : List PyData) (σ : L2.St) (E : En), Rel G O σ H E → DvL O H vs ds → Rel G O (setsS σ js vs) H ⟨setsD E.ρ js ds, E.n⟩
  | [], _, _, σ, E, r, _ => by simpa [setsS, setsD] using r
  | i :: js, _, _, σ, E, r, .nil => by simpa [setsS, setsD] using r
  | i :: js, _, _, σ, E, r, .cons h t => rel_sets js _ _ _ ⟨E.ρ.set i _, E.n⟩ (r.set h) t
theorem put_np {i : Nat} {js : List Nat} {d : PyData} {ρ0 ρ : List Sl} (h : (Tg.np i js).put d ρ0 = some ρ) : ∃ d0 ds, d = .tuple [d0, .tuple ds] ∧ ds.length = js.length ∧ ρ = setsD (ρ0.set i (.dat d0)) js ds := by
  match d, h with
  | .tuple [d0, .tuple ds], h =>
    dsimp only [Tg.put] at h
    split at h
    · cases h
      exact ⟨d0, ds, rfl, by assumption, rfl⟩
    · cases h
theorem Tg.ok {K : PySem.W.Frag} {O : Addr → Prop} {H : Hp} {σ : L2.St} {E : En} {v : V} {d : PyData} {ρ : List Sl} {Q : L2.St → Hp → Prop} (tg : Tg) (r : Rel G O σ H E) (h : Dv O H v d) (e : tg.put d E.ρ = some ρ)
    (q : ∀ σ', Rel G O σ' H ⟨ρ, E.n⟩ → (∀ vs, (match tg with | .nm i => i ∈ vs | .tp js => ∀ j ∈ js, j ∈ vs | .np i js => i ∈ vs ∧ ∀ j ∈ js, j ∈ vs) → wipe σ' vs = wipe σ vs) → Q σ' H) : tg.g K v σ H Q := by
  have w1 : ∀ (vs : List Nat) (i : Nat) (x : Option V) (σ : L2.St), i ∈ vs → wipe (σ.set i x) vs = wipe σ vs := by
    intro vs i x
    have cm : ∀ (vs : List Nat) (σ : L2.St), wipe (σ.set i x) vs = (wipe σ vs).set i x ∨ wipe (σ.set i x) vs = wipe σ vs := by
      intro vs
      induction vs with
      | nil => intro σ; exact .inl rfl
      | cons w vs ih =>
        intro σ
        by_cases q : w = i
        · subst q
          refine .inr ?_
          show (wipe (σ.set w x) vs).set w none = (wipe σ vs).set w none
          rcases ih σ with z | z
          · rw [z, List.set_set]
          · rw [z]
        · rcases ih σ with z | z
          · refine .inl ?_
            show (wipe (σ.set i x) vs).set w none = ((wipe σ vs).set w none).set i x
            rw [z, List.set_comm _ _ (fun y => q y.symm)]
          · refine .inr ?_
            show (wipe (σ.set i x) vs).set w none = (wipe σ vs).set w none
            rw [z]
    induction vs with
    | nil => intro σ h; cases h
    | cons w vs ih =>
      intro σ h
      show (wipe (σ.set i x) vs).set w none = (wipe σ vs).set w none
      by_cases q : w = i
      · subst q
        rcases cm vs σ with z | z
        · rw [z, List.set_set]
        · rw [z]
      · rw [ih σ ((List.mem_cons.mp h).resolve_left fun y => q y.symm)]
  have w2 : ∀ (vs : List Nat) (js : List Nat) (us : List V) (σ : L2.St), (∀ j ∈ js, j ∈ vs) → wipe (setsS σ js us) vs = wipe σ vs := by
    intro vs js
    induction js with
    | nil => intro us σ _; rfl
    | cons i js ih =>
      intro us σ h
      cases us with
      | nil => rfl
      | cons u us =>
        show wipe (setsS (σ.set i (some u)) js us) vs = _
        rw [ih us _ fun j hj => h j (List.mem_cons_of_mem _ hj), w1 vs i _ σ (h i List.mem_cons_self)]
  cases tg with
  | nm i =>
    cases e
    exact q _ (r.set h) fun vs hv => w1 vs i _ σ hv
  | tp js =>
    cases d with
    | tuple ds =>
      dsimp only [Tg.put] at e
      split at e
      · cases e
        obtain ⟨a, vs, rfl, h1, _, h3⟩ := Dv.unT h
        rename_i hl
        have l := h3.length
        exact ⟨a, vs, rfl, st_of h1, by omega, gcs_ok js vs σ (by omega) (q _ (rel_sets js vs ds σ E r h3) fun us hu => w2 us js vs σ hu)⟩
      · cases e
    | _ => cases e
  | np i js =>
    obtain ⟨d0, ds, rfl, hl, rfl⟩ := put_np e
    obtain ⟨a, vs, rfl, h1, _, h3⟩ := Dv.unT h
    cases h3 with
    | cons v0 t0 =>
      cases t0 with
      | cons v1 t1 =>
        cases t1
        obtain ⟨a2, us, rfl, h4, _, h6⟩ := Dv.unT v1
        have l := h6.length
        refine ⟨a, _, rfl, st_of h1, rfl, _, _, rfl, _, _, rfl, a2, us, rfl, st_of h4, by omega, gcs_ok js us _ (by omega) ⟨rfl, q _ (rel_sets js us _ _ ⟨E.ρ.set i _, E.n⟩ (r.set v0) h6) fun ws hu => ?_⟩⟩
        rw [w2 ws js us _ hu.2, w1 ws i _ σ hu.1]
def zAsg (tg : Tg) (t : TD) : TSd := fun D E => t E fun d n => opt (tg.put d E.ρ) fun ρ => D.nx ⟨ρ, n⟩
theorem z_asg {e target : Expr} {t : TD} {tg : Tg} {pos : Pos} (he : PD X G e t) (hg : PG X target (tg.g X.K)) (hs : swapsWithSole [target] e pos.line X.env = pure false := by rfl) (hw : swappedStores [target] e X.env = pure none := by rfl)
    (h1 : (assignEach [target] X.env).map (·.2) = [assign target X.env] := by rfl) : PZ X G (.Assign [target] e pos) (zAsg tg t) := PS.wk (ps_asg he hg hs hw h1) fun D σ H ⟨O, E, Dd, r, k, z⟩ => by
  refine ⟨O, E, _, r, ?_, z⟩
  rintro d n v H1 k1 i1 rv q1
  obtain ⟨ρ, e1, q⟩ := opt_el q1
  exact Tg.ok tg (r.step k1 i1) rv e1 fun σ' r' _ => k.nx O _ H1 _ (r.lt k1) r' q
/-! ### what is walked -/
/-- from H' on, while only what O' avoids changes, J yields ds -/
def Wk (O' : Addr → Prop) (H' : Hp) (J : It) (ds : List PyData) : Prop := ∀ O2 H2, Later O' H' O2 H2 → (∀ x, O2 x → H2 x ≠ none) → ∀ i : Nat, (∀ d, ds[i]? = some d → J.go i H2 ∧ ∀ x H3, J.yld i H2 x H3 → Same H2 H3 ∧ Dv O2 H3 x d) ∧ (ds.length = i → J.stop i H2)
abbrev TId := En → (List PyData → Nat → Prop) → Prop
def lowI (G : Gx) (it : TId) : TI := fun σ H R => ∃ (O : Addr → Prop) (E : En) (Qd : List PyData → Nat → Prop), Rel G O σ H E ∧ (∀ ds n J H', Kp G.F.S H H' → G.F.I n H' → Wk O H' J ds → Qd ds n → R J H') ∧ it E Qd
abbrev PJ (X : Cx) (G : Gx) (tg iter : Expr) (it : TId) : Prop := PI X tg iter (lowI G it)
theorem PI.wk {tg iter : Expr} {t u : TI} (h : PI X tg iter t) (k : ∀ σ H R, u σ H R → t σ H R) : PI X tg iter u := ⟨fun p s σ H R I z => h.run p s σ H R I (k σ H R z)⟩
def rangeD (lo : Int) (n : Nat) : List PyData := (List.range n).map fun i => .int (lo + (i : Nat))
theorem wk_range {O : Addr → Prop} {H : Hp} (lo : Int) (n : Nat) : Wk O H (Itr lo n) (rangeD lo n) := by
  intro O2 H2 _ _ i
  refine ⟨fun d e => ?_, fun h => ?_⟩
  · unfold rangeD at e
    rw [List.getElem?_map, Option.map_eq_some_iff] at e
    obtain ⟨j, e1, rfl⟩ := e
    have hj : i < n := by
      have := (List.getElem?_eq_some_iff.mp e1).1
      simpa using this
    have : j = i := by
      rw [List.getElem?_range hj] at e1
      exact (Option.some.inj e1).symm
    subst this
    refine ⟨hj, ?_⟩
    rintro x H3 ⟨rfl, rfl⟩
    exact ⟨fun _ _ e => e, .int _⟩
  · unfold rangeD at h
    have : n = i := by simpa using h
    exact Nat.le_of_eq this
def iRg1 (t : TD) : TId := fun E Q => t E fun d n => match d with | .int j => decide (-(2 ^ 62) ≤ j ∧ j < 2 ^ 62) = true ∧ Q (rangeD 0 j.toNat) n | _ => False
theorem j_range1 {tg a : Expr} {t : TD} {p pos : Pos} (ha : PD X G a t) (hm : X.mg "range" = none) (hg : Gl X "range" := by rfl) (hs : starEach [a] X.env = [(false, eval a X.env)] := by rfl) (hs' : starEach [a] X.env = (false, eval a X.env) :: starEach [] X.env := by rfl) : PJ X G tg (.Call (.Name "range" p) [a] [] pos) (iRg1 t) :=
  PI.wk (pi_range1 hg hm (pa_cons ha pa_nil hs') hs) fun σ H R ⟨O, E, Qd, r, im, z⟩ => by
    refine ⟨O, E, _, r, ?_, z⟩
    rintro d n v H1 k1 i1 rv q1
    cases rv with
    | int j =>
      obtain ⟨h, q⟩ := q1
      have h' := of_decide_eq_true h
      exact ⟨j, rfl, h'.1, h'.2, im _ n _ H1 k1 i1 (wk_range 0 _) q⟩
    | _ => exact q1.elim
def iRg2 (t u : TD) : TId := fun E Q => t E fun d n => u ⟨E.ρ, n⟩ fun e m => match d, e with | .int i, .int j => decide (-(2 ^ 62) ≤ i ∧ i < 2 ^ 62 ∧ -(2 ^ 62) ≤ j ∧ j < 2 ^ 62) = true ∧ Q (rangeD i (j - i).toNat) m | _, _ => False
theorem j_range2 {tg a b : Expr} {t u : TD} {p pos : Pos} (ha : PD X G a t) (hb : PD X G b u) (hm : X.mg "range" = none) (hg : Gl X "range" := by rfl) (hs : starEach [a, b] X.env = [(false, eval a X.env), (false, eval b X.env)] := by rfl) (hs2 : starEach [b] X.env = [(false, eval b X.env)] := by rfl)
    (hs' : starEach [a, b] X.env = (false, eval a X.env) :: starEach [b] X.env := by rfl) (hs3 : starEach [b] X.env = (false, eval b X.env) :: starEach [] X.env := by rfl) : PJ X G tg (.Call (.Name "range" p) [a, b] [] pos) (iRg2 t u) :=
  PI.wk (pi_range2 hg hm (pa_cons ha (pa_cons hb pa_nil hs3) hs') hs hs2) fun σ H R ⟨O, E, Qd, r, im, z⟩ => by
    refine ⟨O, E, _, r, ?_, z⟩
    rintro d n v H1 k1 i1 rv q1
    have r1 := r.step k1 i1
    refine ⟨O, _, _, r1, ?_, q1⟩
    rintro d2 m v2 H2 k2 i2 rv2 q2
    split at q2
    · cases rv
      cases rv2
      obtain ⟨h, q⟩ := q2
      exact ⟨_, _, rfl, of_decide_eq_true h, im _ m _ H2 (k1.trans k2) i2 (wk_range _ _) q⟩
    · exact q2.elim
/-- a list or a tuple -/
theorem pi_seq {tg l : Expr} {tl : TE} (hl : PE X l tl) : PI X tg l (fun σ H R => tl σ H fun x H1 => ∃ a, x = .ref a ∧ (((∃ xs, SqL X.K H1 a xs) ∧ R (Itl X.K a) H1) ∨ ((∃ xs, SqT X.K H1 a xs) ∧ R (Itt X.K a) H1))) := by
  refine ⟨fun pins s σ H R I h => ?_⟩
  refine thn (hl.run pins s σ H _ I h) fun v s1 ⟨x, H1, I1, r1, q1⟩ => ?_
  obtain ⟨a, e, q⟩ := q1
  subst e
  rcases q with ⟨⟨xs, hq⟩, q⟩ | ⟨⟨xs, hq⟩, q⟩
  · have h0 : PE X l (fun σ' H' Q => σ' = σ ∧ H' = H1 ∧ Q (.ref a) H1) → True := fun _ => trivial
    cases r1
    obtain ⟨its, rv, p, hz⟩ := I1.list hq
    refine wpAny_pyIter_list p.isList ?_
    refine ⟨s1.heap.objs.size, [s1.heap.objs.size], _, _, H1, rfl, I1.kept (t' := s1.toks) fun b o e => Heap.get?_push_of_some _ e, turn_list a _, ⟨_, Heap.get?_push_size _ rfl, rfl, rfl⟩, fun b hb => ?_, q⟩
    have e : b = s1.heap.objs.size := by simpa using hb
    subst e
    exact I1.fpOk (Nat.le_refl _) (I1.hok.fresh (Nat.le_refl _))
  · cases r1
    obtain ⟨its, rv, p, hz⟩ := I1.tuple hq
    refine wpAny_pyIter_tuple (show s1.heap.IsTuple a its.toArray from p) ?_
    refine ⟨s1.heap.objs.size, [s1.heap.objs.size], _, _, H1, rfl, I1.kept (t' := s1.toks) fun b o e => Heap.get?_push_of_some _ e, turn_tuple a _, ⟨_, Heap.get?_push_size _ rfl, rfl, rfl⟩, fun b hb => ?_, q⟩
    have e : b = s1.heap.objs.size := by simpa using hb
    subst e
    exact I1.fpOk (Nat.le_refl _) (I1.hok.fresh (Nat.le_refl _))
theorem wk_list {K : PySem.W.Frag} {O : Addr → Prop} {H : Hp} {a : Addr} {vs : List V} {ds : List PyData} (h : H a = some (.lst vs)) (n : ¬ O a) (d : DvL O H vs ds) : Wk O H (Itl K a) ds := by
  intro O2 H2 L al i
  have e := L.h a _ h n
  have d2 := d.later L
  refine ⟨fun x ex => ?_, fun hl => ⟨vs, sq_of e, by rw [d.length]; exact Nat.le_of_eq hl⟩⟩
  obtain ⟨v, e1, e2⟩ := d2.get ex
  refine ⟨⟨vs, v, sq_of e, e1⟩, ?_⟩
  rintro y H3 ⟨rfl, hy⟩
  have := hy vs (sq_of e)
  rw [e1] at this
  cases this
  exact ⟨fun _ _ e => e, e2⟩
theorem wk_tup {K : PySem.W.Frag} {O : Addr → Prop} {H : Hp} {a : Addr} {vs : List V} {ds : List PyData} (h : H a = some (.tup vs)) (n : ¬ O a) (d : DvL O H vs ds) : Wk O H (Itt K a) ds := by
  intro O2 H2 L al i
  have e := L.h a _ h n
  have d2 := d.later L
  refine ⟨fun x ex => ?_, fun hl => ⟨vs, st_of e, by rw [d.length]; exact Nat.le_of_eq hl⟩⟩
  obtain ⟨v, e1, e2⟩ := d2.get ex
  refine ⟨⟨vs, v, st_of e, e1⟩, ?_⟩
  rintro y H3 ⟨rfl, hy⟩
  have := hy vs (st_of e)
  rw [e1] at this
  cases this
  exact ⟨fun _ _ e => e, e2⟩
def items : PyData → Option (List PyData)
  | .list ds => some ds
  | .tuple ds => some ds
  | _ => none
def iSeq (t : TD) : TId := fun E Q => t E fun d n => opt (items d) fun ds => Q ds n
theorem j_seq {tg l : Expr} {t : TD} (hl : PD X G l t) : PJ X G tg l (iSeq t) := PI.wk (pi_seq hl) fun σ H R ⟨O, E, Qd, r, im, z⟩ => by
  refine ⟨O, E, _, r, ?_, z⟩
  rintro d n v H1 k1 i1 rv q1
  obtain ⟨ds, e, q⟩ := opt_el q1
  have r1 := r.step k1 i1
  unfold items at e
  split at e
  · cases e
    obtain ⟨a, vs, rfl, h1, h2, h3⟩ := Dv.unL rv
    exact ⟨a, rfl, .inl ⟨⟨_, sq_of h1⟩, im _ n _ H1 k1 i1 (wk_list h1 h2 h3) q⟩⟩
  · cases e
    obtain ⟨a, vs, rfl, h1, h2, h3⟩ := Dv.unT rv
    exact ⟨a, rfl, .inr ⟨⟨_, st_of h1⟩, im _ n _ H1 k1 i1 (wk_tup h1 h2 h3) q⟩⟩
  · cases e
/-- a list of one's own is given up ahead of a statement: from there on it is data -/
def zFrz (i : Nat) (t : TSd) : TSd := fun D E => match E.ρ[i]? with | some (.own ds) => t D ⟨E.ρ.set i (.dat (.list ds)), E.n⟩ | _ => t D E
theorem z_frz (i : Nat) {st : Stmt} {t : TSd} (h : PZ X G st t) : PZ X G st (zFrz i t) := PS.wk h fun D σ H ⟨O, E, Dd, r, k, z⟩ => by
  unfold zFrz at z
  split at z
  · rename_i ds e
    obtain ⟨a, vs, O', _, _, _, _, y5, y6, _⟩ := r.freeze e
    exact ⟨O', _, Dd, y5, k.later y6, z⟩
  · exact ⟨O, E, Dd, r, k, z⟩
/-! ### loops -/
def dForL0 (tg : Tg) (tb : TSd) (D : DEnds) : List PyData → En → Prop
  | [], E => D.nx E
  | d :: ds, E => opt (tg.put d E.ρ) fun ρ => tb { D with nx := dForL0 tg tb D ds, ct := dForL0 tg tb D ds, bk := D.nx } ⟨ρ, E.n⟩
structure dForL (tg : Tg) (tb : TSd) (D : DEnds) (ds : List PyData) (E : En) : Prop where
  h : dForL0 tg tb D ds E
def zFor (it : TId) (tg : Tg) (tb : TSd) : TSd := fun D E => it E fun ds n => dForL tg tb D ds ⟨E.ρ, n⟩
theorem z_for {target iter : Expr} {body : List Stmt} {it : TId} {tg : Tg} {tb : TSd} {pos : Pos} (hp : PassesOwn (model X.prog X.w) X.A X.env X.xe) (hc : X.calm = true) (hi : PJ X G target iter it) (hg : PG X target (tg.g X.K)) (hb : PZs X G body tb) (hs : ∀ x, foldedSetIterable iter X.env x = pure x := by intro _; rfl) :
    PZ X G (.For target iter body [] pos) (zFor it tg tb) := PS.wk (ps_for hp hc hi hg hb hs) fun D σ H ⟨O, E, Dd, r, k, z⟩ => by
  refine ⟨O, E, _, r, ?_, z⟩
  rintro ds n J H1 k1 i1 wk q1
  replace q1 := q1.h
  have r1 := r.step k1 i1
  have L1 := r.lt k1
  refine ⟨fun i m σ2 H2 => m = ds.length - i ∧ i ≤ ds.length ∧ ∃ O2 E2, Later O H1 O2 H2 ∧ Rel G O2 σ2 H2 E2 ∧ dForL0 tg tb Dd (ds.drop i) E2, ⟨ds.length, rfl, Nat.zero_le _, O, _, Later.refl _ _, r1, by simpa using q1⟩, ?_⟩
  rintro i m σ2 H2 ⟨rfl, hle, O2, E2, L2, r2, q2⟩
  by_cases hl : i < ds.length
  · obtain ⟨g1, g2⟩ := (wk O2 H2 L2 r2.al i).1 ds[i] (List.getElem?_eq_getElem hl)
    rw [List.drop_eq_getElem_cons hl] at q2
    obtain ⟨ρ, e, q3⟩ := opt_el q2
    refine .inr ⟨g1, fun σ' H' => ∃ O3 E3, Later O H1 O3 H' ∧ Rel G O3 σ' H' E3 ∧ dForL0 tg tb Dd (ds.drop (i + 1)) E3, fun σ' H' q => ⟨ds.length - (i + 1), by omega, rfl, by omega, q⟩, fun x H3 y => ?_⟩
    obtain ⟨s3, dx⟩ := g2 x H3 y
    obtain ⟨k3, i3⟩ := r2.fin s3
    have r3 := r2.step k3 i3
    have L3 := L2.trans (r2.lt k3)
    refine Tg.ok tg r3 dx e fun σ' r' _ => ⟨O2, _, { Dd with nx := dForL0 tg tb Dd (ds.drop (i + 1)), ct := dForL0 tg tb Dd (ds.drop (i + 1)), bk := Dd.nx }, r', ⟨fun O' σ' H' E' l rr q => ⟨O', E', L3.trans l, rr, q⟩, k.rt, fun O' σ' H' E' l rr q => k.nx O' σ' H' E' ((L1.trans L3).trans l) rr q, fun O' σ' H' E' l rr q => ⟨O', E', L3.trans l, rr, q⟩⟩, q3⟩
  · refine .inl ⟨(wk O2 H2 L2 r2.al i).2 (by omega), ?_⟩
    rw [List.drop_eq_nil_of_le (by omega)] at q2
    exact k.nx O2 σ2 H2 E2 (L1.trans L2) r2 q2
def zWhile (tt : TDt) (tb : TSd) : TSd := fun D E => ∃ W : Nat → En → Prop, (∃ m, W m E) ∧ ∀ m E, W m E → tt E fun b n => if b = true then tb { D with nx := fun E' => ∃ m', m' < m ∧ W m' E', ct := fun E' => ∃ m', m' < m ∧ W m' E', bk := D.nx } ⟨E.ρ, n⟩ else D.nx ⟨E.ρ, n⟩
theorem z_while {c : Expr} {body : List Stmt} {tt : TDt} {tb : TSd} {pos : Pos} (hp : PassesOwn (model X.prog X.w) X.A X.env X.xe) (hc : PQ X G c tt) (hb : PZs X G body tb) : PZ X G (.While c body [] pos) (zWhile tt tb) := PS.wk (ps_while hp hc hb) fun D σ H ⟨O, E, Dd, r, k, W, ⟨m0, w0⟩, z⟩ => by
  refine ⟨fun m σ2 H2 => ∃ O2 E2, Later O H O2 H2 ∧ Rel G O2 σ2 H2 E2 ∧ W m E2, ⟨m0, O, E, Later.refl _ _, r, w0⟩, ?_⟩
  rintro m σ2 H2 ⟨O2, E2, L2, r2, w2⟩
  refine ⟨O2, E2, _, r2, ?_, z m E2 w2⟩
  rintro b n H3 k3 i3 q3
  have r3 := r2.step k3 i3
  have L3 := L2.trans (r2.lt k3)
  cases b with
  | true =>
    refine iteT ⟨fun σ' H' => ∃ m', m' < m ∧ ∃ O3 E3, Later O H O3 H' ∧ Rel G O3 σ' H' E3 ∧ W m' E3, fun σ' H' q => q, ?_⟩
    rw [if_pos rfl] at q3
    exact ⟨O2, _, { Dd with nx := fun E' => ∃ m', m' < m ∧ W m' E', ct := fun E' => ∃ m', m' < m ∧ W m' E', bk := Dd.nx }, r3, ⟨fun O' σ' H' E' l rr ⟨m', hm, q⟩ => ⟨m', hm, O', E', L3.trans l, rr, q⟩, k.rt, fun O' σ' H' E' l rr q => k.nx O' σ' H' E' (L3.trans l) rr q, fun O' σ' H' E' l rr ⟨m', hm, q⟩ => ⟨m', hm, O', E', L3.trans l, rr, q⟩⟩, q3⟩
  | false =>
    refine iteF ?_
    rw [if_neg (by decide)] at q3
    exact k.nx O2 σ2 H3 _ L3 r3 q3
/-! ### comprehensions -/
def dLcL0 (tg : Tg) (tt : TDt) (te : TD) (ρ0 : List Sl) (Q : PyData → Nat → Prop) : List PyData → List PyData → Nat → Prop
  | [], acc, n => Q (.list acc) n
  | d :: ds, acc, n => opt (tg.put d ρ0) fun ρ => tt ⟨ρ, n⟩ fun b m => if b = true then te ⟨ρ, m⟩ fun y k => acc.length < 100000 ∧ dLcL0 tg tt te ρ0 Q ds (acc ++ [y]) k else dLcL0 tg tt te ρ0 Q ds acc m
structure dLcL (tg : Tg) (tt : TDt) (te : TD) (ρ0 : List Sl) (Q : PyData → Nat → Prop) (ds acc : List PyData) (n : Nat) : Prop where
  h : dLcL0 tg tt te ρ0 Q ds acc n
def wipeD (ρ : List Sl) : List Nat → List Sl
  | [] => ρ
  | v :: vs => (wipeD ρ vs).set v .no
theorem rel_wipe {O : Addr → Prop} {σ : L2.St} {H : Hp} {E : En} (r : Rel G O σ H E) : ∀ vs : List Nat, Rel G O (wipe σ vs) H ⟨wipeD E.ρ vs, E.n⟩
  | [] => r
  | v :: vs => (rel_wipe r vs).drop
def tgIn (tg : Tg) (vs : List Nat) : Prop := match tg with | .nm i => i ∈ vs | .tp js => ∀ j ∈ js, j ∈ vs | .np i js => i ∈ vs ∧ ∀ j ∈ js, j ∈ vs
def dLc (it : TId) (tg : Tg) (tt : TDt) (te : TD) (vs : List Nat) : TD := fun E Q => it E fun ds n => dLcL tg tt te (wipeD E.ρ vs) Q ds [] n
theorem lc_low {it : TId} {tg : Tg} {tt : TDt} {te : TD} {vs : List Nat} {K : PySem.W.Frag} (hv : tgIn tg vs) : ∀ σ H Q, low G RL (dLc it tg tt te vs) σ H Q → tLc (lowI G it) (tg.g K) (lowT G tt) (low G RD te) vs σ H Q := by
  rintro σ H Q ⟨O, E, Qd, r, im, z⟩
  refine ⟨O, E, _, r, ?_, z⟩
  rintro ds n0 J H1 k1 i1 wk q1 D hD
  replace q1 := q1.h
  have r1 := r.step k1 i1
  have nD : ¬ O D := fun y => r1.al D y hD
  have nS : ¬ G.F.S D := fun y => nD (r1.sO D y)
  have L0 : Later O H1 (fun x => O x ∨ x = D) (upd H1 D (.lst [])) := later_newO hD
  have r0 : Rel G (fun x => O x ∨ x = D) σ (upd H1 D (.lst [])) ⟨E.ρ, n0⟩ := by
    refine r1.more L0 (fun x y => .inl y) (fun x y => ?_) (fun x u e _ => same_upd' hD x u e) (G.F.keep _ _ _ r1.str fun x o _ e => same_upd' hD x o e)
    by_cases q : x = D
    · subst q
      rw [upd_same]
      exact fun y => by cases y
    · rw [upd_ne q]
      exact r1.al x (y.resolve_right q)
  refine ⟨fun i m H2 => m = ds.length - i ∧ i ≤ ds.length ∧ ∃ n ws acc, Later (fun x => O x ∨ x = D) (upd H1 D (.lst [])) (fun x => O x ∨ x = D) H2 ∧ Kp (fun x => G.F.S x ∨ x = D) (upd H1 D (.lst [])) H2 ∧ Rel G (fun x => O x ∨ x = D) σ H2 ⟨E.ρ, n⟩ ∧ H2 D = some (.lst ws) ∧ DvL (fun x => O x ∨ x = D) H2 ws acc ∧ dLcL0 tg tt te (wipeD E.ρ vs) Qd (ds.drop i) acc n,
    ⟨ds.length, rfl, Nat.zero_le _, n0, [], [], Later.refl _ _, Kp.refl _, r0, upd_same, .nil, by simpa using q1⟩, ?_⟩
  rintro i m H2 ⟨rfl, hle, n, ws, acc, M2, K2, r2, h2, d2, q2⟩
  by_cases hl : i < ds.length
  · obtain ⟨g1, g2⟩ := (wk _ H2 (L0.trans M2) r2.al i).1 ds[i] (List.getElem?_eq_getElem hl)
    rw [List.drop_eq_getElem_cons hl] at q2
    obtain ⟨ρ, e, q3⟩ := opt_el q2
    refine .inr ⟨g1, fun H' => ∃ n ws acc, Later (fun x => O x ∨ x = D) (upd H1 D (.lst [])) (fun x => O x ∨ x = D) H' ∧ Kp (fun x => G.F.S x ∨ x = D) (upd H1 D (.lst [])) H' ∧ Rel G (fun x => O x ∨ x = D) σ H' ⟨E.ρ, n⟩ ∧ H' D = some (.lst ws) ∧ DvL (fun x => O x ∨ x = D) H' ws acc ∧ dLcL0 tg tt te (wipeD E.ρ vs) Qd (ds.drop (i + 1)) acc n, fun H' q => ⟨ds.length - (i + 1), by omega, rfl, by omega, q⟩, fun x H3 y => ?_⟩
    obtain ⟨s3, dx⟩ := g2 x H3 y
    obtain ⟨k3, i3⟩ := r2.fin s3
    have r3 := r2.step k3 i3
    have rw3 := rel_wipe r3 vs
    refine Tg.ok tg rw3 dx e fun σ' r' hw => ?_
    refine ⟨?_, ?_⟩
    · have e1 := hw vs hv
      have e2 : ∀ (vs : List Nat) (σ : L2.St), wipe (wipe σ vs) vs = wipe σ vs := by
        intro vs σ
        have key : ∀ (us vs : List Nat), (∀ u ∈ us, u ∈ vs) → wipe (wipe σ vs) us = wipe σ vs := by
          intro us
          induction us with
          | nil => intro vs _; rfl
          | cons u us ih =>
            intro vs h
            show (wipe (wipe σ vs) us).set u none = _
            rw [ih vs fun w hw => h w (List.mem_cons_of_mem _ hw)]
            have hu := h u List.mem_cons_self
            have : ∀ (vs : List Nat), u ∈ vs → ∀ x, (wipe σ vs)[u]? = some x → x = none := by
              intro vs
              induction vs with
              | nil => intro h; cases h
              | cons w vs ih2 =>
                intro h x ex
                by_cases q : w = u
                · subst q
                  rw [show wipe σ (w :: vs) = (wipe σ vs).set w none from rfl, List.getElem?_set] at ex
                  rw [if_pos rfl] at ex
                  split at ex
                  · cases ex; rfl
                  · cases ex
                · rw [show wipe σ (w :: vs) = (wipe σ vs).set w none from rfl, List.getElem?_set_ne q] at ex
                  exact ih2 ((List.mem_cons.mp h).resolve_left fun y => q y.symm) x ex
            refine List.ext_getElem? fun j => ?_
            rw [List.getElem?_set]
            split
            · rename_i q
              subst q
              split
              · rename_i hlt
                have := this vs hu _ (List.getElem?_eq_getElem hlt)
                rw [List.getElem?_eq_getElem hlt, this]
              · rename_i hlt
                exact (List.getElem?_eq_none (by omega)).symm
            · rfl
        exact key vs vs fun _ h => h
      rw [e1, e2]
    · refine ⟨_, _, _, r', ?_, q3⟩
      rintro b m H4 k4 i4 q4
      have k34 := k3.trans k4
      have r4 := r2.step k34 i4
      have h4 := k34 _ _ h2 nS
      have KK : Kp (fun x => G.F.S x ∨ x = D) (upd H1 D (.lst [])) H4 := K2.trans fun b o e n => k34 b o e fun y => n (.inl y)
      have LL := M2.trans (r2.lt k34)
      cases b with
      | true =>
        refine iteT ?_
        rw [if_pos rfl] at q4
        have r4' := r'.step k4 i4
        refine ⟨_, _, _, r4', ?_, q4⟩
        rintro dy k v H5 k5 i5 rv ⟨q0, q5⟩
        have k345 := k34.trans k5
        have r5 := r2.step k345 i5
        have h5 := k345 _ _ h2 nS
        have d5 := d2.later (r2.lt k345)
        refine ⟨ws, h5, sz_lt (by rw [d2.length]; exact q0), ?_⟩
        have L6 : Later (fun x => O x ∨ x = D) H5 (fun x => O x ∨ x = D) (upd H5 D (.lst (ws ++ [v]))) := ⟨fun _ z => .inl z, fun x u e n => by rw [upd_ne (show x ≠ D from fun z => n (.inr z))]; exact e⟩
        refine ⟨k, ws ++ [v], acc ++ [dy], (M2.trans (r2.lt k345)).trans L6, ?_, ?_, upd_same, (d5.app (.cons rv .nil)).later L6, q5⟩
        · intro x u e n
          rw [upd_ne (show x ≠ D from fun z => n (.inr z))]
          exact k345 x u (K2 x u e n) fun y => n (.inl y)
        · refine ⟨r5.len, fun j d e => ?_, fun j es e => ?_, r5.dif, r5.con, G.F.keep _ _ _ r5.str fun x o y e => ?_, r5.bo, fun x y => ?_, fun x u e n => ?_⟩
          · obtain ⟨v, y1, y2⟩ := r5.dat j d e
            exact ⟨v, y1, Dv.later L6 y2⟩
          · obtain ⟨b, us, y1, y2, y3, y4, y5⟩ := r5.own j es e
            refine ⟨b, us, y1, ?_, y3, y4, y5.later L6⟩
            rw [upd_ne (show b ≠ D from fun z => ?_)]
            · exact y2
            · obtain ⟨b', us', w1, w2, w3, _⟩ := r1.own j es e
              rw [y1] at w1
              cases w1
              rw [z] at w3
              exact nD w3
          · rw [upd_ne (show x ≠ D from fun z => nS (by rw [← z]; exact y))]
            exact e
          · by_cases q : x = D
            · subst q
              rw [upd_same]
              exact fun y => by cases y
            · rw [upd_ne q]
              exact r5.al x y
          · rw [upd_ne (show x ≠ D from fun z => ?_)]
            · exact r5.kp x u e n
            · subst z
              have := r1.kp _ u e nS
              rw [hD] at this
              cases this
      | false =>
        refine iteF ?_
        rw [if_neg (by decide)] at q4
        exact ⟨m, ws, acc, LL, KK, r4, h4, d2.later (r2.lt k34), q4⟩
  · refine .inl ⟨(wk _ H2 (L0.trans M2) r2.al i).2 (by omega), ?_⟩
    rw [List.drop_eq_nil_of_le (by omega)] at q2
    have kf : Kp G.F.S H1 H2 := fun x u e n => by
      have ne : x ≠ D := fun z => by rw [z, hD] at e; cases e
      exact K2 x u (same_upd' hD x u e) fun y => y.elim n ne
    have hD0 : H D = none := by
      cases e0 : H D with
      | none => rfl
      | some u =>
        rw [k1 D u e0 nS] at hD
        cases hD
    refine im _ n _ H2 (k1.trans kf) r2.str ⟨D, ws, acc, rfl, rfl, hD0, h2, ?_⟩ q2
    exact d2
end
end Dl
namespace Dl
open PySem PySem.Spec PyProof.Rows L2 Gd
section
variable {X : Cx} {G : Gx}
theorem ts_nil : PTs X [] (lowT G fun E Q => Q true E.n) := ⟨fun p s σ H Q I ⟨O, E, Qd, r, im, z⟩ => (pts_nil (X := X)).run p s σ H Q I (im true E.n H (Kp.refl H) r.str z)⟩
theorem ts_one {c : Expr} {t : TDt} (h : PQ X G c t) : PTs X [c] (lowT G t) := pts_one h
theorem pl_lc {elt target iter : Expr} {ifs : List Expr} {scope : Scope} {own : List (Str × Nat)} {pos : Pos} {it : TId} {tg : Tg} {tt : TDt} {te : TD} (hc : X.calm = true) (hN : X.N.Nodup) (hi : PJ X G target iter it) (ok : BlkOk X.N X.env.scope scope own)
    (hg : ∀ (s : Shared) (H : Hp) (C : Addr) (cl : List (Str × Addr)) (fp : List Addr), PG (X.blk s H scope (compEnvC scope cl C X.env) fp) target (tg.g X.K)) (ht : ∀ (s : Shared) (H : Hp) (C : Addr) (cl : List (Str × Addr)) (fp : List Addr), PTs (X.blk s H scope (compEnvC scope cl C X.env) fp) ifs (lowT G tt))
    (he : ∀ (s : Shared) (H : Hp) (C : Addr) (cl : List (Str × Addr)) (fp : List Addr), PD (X.blk s H scope (compEnvC scope cl C X.env) fp) G elt te) (hv : tgIn tg (own.map (·.2))) (hs : ∀ x, foldedSetIterable iter X.env x = pure x := by intro _; rfl) :
    PL X G (.ListComp elt [⟨target, iter, ifs, 0⟩] scope pos) (dLc it tg tt te (own.map (·.2))) := PE.wk (pe_lc hc hN hi ok hg ht he hs) (lc_low hv)
/-- y = [..] -/
theorem z_ownLc {i : Nat} {y : Str} {py : Pos} {elt target iter : Expr} {ifs : List Expr} {scope : Scope} {own : List (Str × Nat)} {pos spos : Pos} {it : TId} {tg : Tg} {tt : TDt} {te : TD} (hc : X.calm = true) (hN : X.N.Nodup) (hy : X.N[i]? = some y) (hyl : X.env.scope.names.lookup y = some .local)
    (hsw : swapsWith (.ListComp elt [⟨target, iter, ifs, 0⟩] scope pos) (some (.Name y py)) spos.line X.env = pure true) (hi : PJ X G target iter it) (ok : BlkOk X.N X.env.scope scope own)
    (hg : ∀ (s : Shared) (H : Hp) (C : Addr) (cl : List (Str × Addr)) (fp : List Addr), PG (X.blk s H scope (compEnvC scope cl C X.env) fp) target (tg.g X.K)) (ht : ∀ (s : Shared) (H : Hp) (C : Addr) (cl : List (Str × Addr)) (fp : List Addr), PTs (X.blk s H scope (compEnvC scope cl C X.env) fp) ifs (lowT G tt))
    (he : ∀ (s : Shared) (H : Hp) (C : Addr) (cl : List (Str × Addr)) (fp : List Addr), PD (X.blk s H scope (compEnvC scope cl C X.env) fp) G elt te) (hv : tgIn tg (own.map (·.2))) (hs : ∀ x, foldedSetIterable iter X.env x = pure x := by intro _; rfl) :
    PZ X G (.Assign [.Name y py] (.ListComp elt [⟨target, iter, ifs, 0⟩] scope pos) spos) (zOwn i (dLc it tg tt te (own.map (·.2)))) := PS.wk (ps_setLc hc hN hy hyl hsw hi ok hg ht he hs) (own_core (lc_low hv))
end
/-! ### a def over data -/
theorem sl_get {as : List Ar} {m i : Nat} {s : Sl} (h : (as.map Ar.sl ++ List.replicate m Sl.no)[i]? = some s) (ns : s ≠ .no) : ∃ a, as[i]? = some a ∧ s = a.sl := by
  rw [List.getElem?_append] at h
  split at h
  · rw [List.getElem?_map, Option.map_eq_some_iff] at h
    obtain ⟨a, e1, e2⟩ := h
    exact ⟨a, e1, e2.symm⟩
  · rw [List.getElem?_replicate] at h
    split at h
    · cases h; exact (ns rfl).elim
    · cases h
theorem rel_start {G : Gx} {N : List Str} {vs : List V} {as : List Ar} {n m : Nat} (hv : Paired (ArR G.B G.Hs) vs as) (hm : m = N.length - vs.length) (i : G.F.I n G.Hs) : Rel G G.B (start N vs) G.Hs ⟨as.map Ar.sl ++ List.replicate m Sl.no, n⟩ := by
  have get : ∀ {j : Nat} {a : Ar}, as[j]? = some a → ∃ v, (start N vs)[j]? = some (some v) ∧ ArR G.B G.Hs v a := by
    intro j a e
    have : ∀ {vs : List V} {as : List Ar}, Paired (ArR G.B G.Hs) vs as → ∀ {j : Nat} {a : Ar}, as[j]? = some a → ∃ v, vs[j]? = some v ∧ ArR G.B G.Hs v a := by
      intro vs as hv
      induction hv with
      | nil => intro j a e; simp at e
      | cons r _ ih =>
        intro j a e
        cases j with
        | zero =>
          simp only [List.getElem?_cons_zero, Option.some.injEq] at e
          subst e
          exact ⟨_, rfl, r⟩
        | succ j => exact ih (by simpa using e)
    obtain ⟨v, e1, r⟩ := this hv e
    refine ⟨v, ?_, r⟩
    unfold L2.start
    rw [List.getElem?_append_left (by rw [List.length_map]; exact (List.getElem?_eq_some_iff.mp e1).1), List.getElem?_map, e1]
    rfl
  refine ⟨?_, fun j d e => ?_, fun j ds e => ?_, fun j k dj dk a q1 _ _ _ => ?_, fun j v e => ?_, i, fun x z => z, G.hb, Kp.refl _⟩
  · subst hm
    unfold L2.start
    simp [hv.length]
  · obtain ⟨a, e1, e2⟩ := sl_get e (fun z => nomatch z)
    cases a with
    | d y =>
      cases e2
      exact get e1
    | c y => cases e2
  · obtain ⟨a, e1, e2⟩ := sl_get e (fun z => nomatch z)
    cases a <;> cases e2
  · obtain ⟨a, e1, e2⟩ := sl_get q1 (fun z => nomatch z)
    cases a <;> cases e2
  · obtain ⟨a, e1, e2⟩ := sl_get e (fun z => nomatch z)
    cases a with
    | d y => cases e2
    | c y =>
      cases e2
      obtain ⟨w, h1, h2⟩ := get e1
      cases h2
      exact h1
section
variable {P : Program} {w : World} {K : PySem.W.Frag} {mg : Str → Option Value} {base : Heap}
theorem okD {x qual : Str} {st : Stmt} {f : Addr} {fd : FuncData} {N ps : List Str} {k : Nat} {C : Con} {t : Gx → TSd} (F : Fun K x qual st f fd) (S : FnScope N ps (defScope st))
    (der : ∀ (G : Gx) (cdv : Value) (A : Around) (fr : List Env) (s : Shared) (H : Hp) (E : XK), Room k (A.deeper (envOfC qual (defScope st) s.heap.objs.size f cdv)) → PZs (cxOf CX0 P w K mg base N qual (defScope st) f cdv A fr s H E).nox G (defBody st) (t G))
    (sem : ∀ (G : Gx) (as : List Ar) (n : Nat) (Qd : PyData → Nat → Prop), as.length = ps.length → C G.F as n Qd → t G { nx := fun E => Qd .none E.n, rt := Qd } ⟨as.map Ar.sl ++ List.replicate (N.length - ps.length) Sl.no, n⟩) :
    FnOk P w K mg base CX0 (k + 1) f fd ps (spD C ps.length) := by
  refine F.ok S (fun vs H Q E h => h.1) (fun cdv A fr s H vs Q E hr h => ?_)
  obtain ⟨hl, F', B, as, n, Qd, sb, hb, hv, i, im, c⟩ := h
  refine ⟨_, der ⟨F', B, H, sb, hb⟩ cdv A fr s H E hr, B, _, _, rel_start (G := ⟨F', B, H, sb, hb⟩) hv rfl i, ?_, by have := sem ⟨F', B, H, sb, hb⟩ as n Qd (hv.length.symm.trans hl) c; rw [← hl] at this; exact this⟩
  exact ⟨fun O' σ' H' E' l r q => im .none E'.n .non H' r.kp r.str .non q, fun v H' d n k i dv q => im d n v H' k i dv q, fun _ _ _ _ _ _ q => q.elim, fun _ _ _ _ _ _ q => q.elim⟩
theorem exG {X : Cx} {st : List Stmt} {t : Gx → TSd} (h : ∀ G : Gx, PZs X G st (t G)) : PSs X st (fun D σ H => ∃ G : Gx, lowS G (t G) D σ H) := ⟨fun p s σ H D I ⟨G, z⟩ => (h G).run p s σ H D I z⟩
structure Cd (P : Program) (w : World) (K : PySem.W.Frag) (mg : Str → Option Value) (base : Heap) (k : Nat) (x : Str) (f : Addr) (fd : FuncData) (ps : List Str) (C : Con) : Prop where
  G : FnOk P w K mg base CX0 k f fd ps (spD C ps.length)
  kp : PySem.W.keepIn K (.ref f) = true
  b : Binds K fd ps []
  g : mg x = some (.ref f)
theorem Cd.mono {j k : Nat} {x : Str} {f : Addr} {fd : FuncData} {ps : List Str} {C : Con} (c : Cd P w K mg base j x f fd ps C) (h : j ≤ k) : Cd P w K mg base k x f fd ps C := ⟨c.G.mono h, c.kp, c.b, c.g⟩
end
end Dl
namespace Dl
open PySem PySem.Spec PyProof.Rows L2 Gd
abbrev dI (i : Int) : PyData := .int i
abbrev tupI (ns : List Int) : PyData := .tuple (ns.map dI)
abbrev lstI (ns : List Int) : PyData := .list (ns.map dI)
def intsOf : List PyData → Option (List Int)
  | [] => some []
  | .int i :: r => (intsOf r).map (i :: ·)
  | _ :: _ => none
theorem intsOf_map : ∀ ns : List Int, intsOf (ns.map dI) = some ns
  | [] => rfl
  | n :: r => by rw [List.map_cons, intsOf, intsOf_map r]; rfl
theorem ints_dv {O : Addr → Prop} {H : Hp} : ∀ {vs : List V} {ds : List PyData} {ns : List Int}, DvL O H vs ds → intsOf ds = some ns → vs = ns.map V.int
  | _, _, _, .nil, e => by cases e; rfl
  | _, _, _, .cons (b := .int i) r t, e => by
    rw [intsOf, Option.map_eq_some_iff] at e
    obtain ⟨ms, e1, rfl⟩ := e
    cases r
    rw [ints_dv t e1]
    rfl
  | _, _, _, .cons (b := .none) r t, e => by cases e
  | _, _, _, .cons (b := .bool _) r t, e => by cases e
  | _, _, _, .cons (b := .str _) r t, e => by cases e
  | _, _, _, .cons (b := .list _) r t, e => by cases e
  | _, _, _, .cons (b := .tuple _) r t, e => by cases e
  | _, _, _, .cons (b := .dict _) r t, e => by cases e
theorem get_tupI {ns : List Int} {i : Nat} (h : i < ns.length) : atI (ns.map dI) (i : Int) = some (.int (ns.getD i 0)) := by
  unfold atI ixN
  rw [if_pos (by omega), if_pos (by rw [List.length_map]; omega)]
  show (ns.map dI)[(i : Int).toNat]? = _
  rw [Int.toNat_natCast, List.getElem?_map, List.getElem?_eq_getElem h, List.getD_eq_getElem?_getD, List.getElem?_eq_getElem h]
  rfl
section
variable {X : Cx} {G : Gx}
/-! ### max, min, sum of a list of whole numbers -/
def maxI : List Int → Int
  | [] => 0
  | [a] => a
  | a :: b :: r => if a ≤ maxI (b :: r) then maxI (b :: r) else a
def minI : List Int → Int
  | [] => 0
  | [a] => a
  | a :: b :: r => if minI (b :: r) ≤ a then minI (b :: r) else a
theorem maxI_of : ∀ (ns : List Int) (m : Int), m ∈ ns → (∀ y ∈ ns, y ≤ m) → maxI ns = m
  | [], m, h, _ => by cases h
  | [a], m, h, _ => by
    rcases List.mem_cons.mp h with h | h
    · exact h.symm
    · cases h
  | a :: b :: r, m, h, g => by
    unfold maxI
    have ga := g a List.mem_cons_self
    have key : ∀ (l : List Int), l ≠ [] → maxI l ∈ l ∧ ∀ y ∈ l, y ≤ maxI l := by
      intro l
      induction l with
      | nil => intro h; exact (h rfl).elim
      | cons a l ih =>
        intro _
        cases l with
        | nil => exact ⟨List.mem_cons_self, fun y hy => by rcases List.mem_cons.mp hy with rfl | hy; exact Int.le_refl _; cases hy⟩
        | cons b l =>
          obtain ⟨i1, i2⟩ := ih (by simp)
          unfold maxI
          split
          · exact ⟨List.mem_cons_of_mem _ i1, fun y hy => by rcases List.mem_cons.mp hy with rfl | hy; assumption; exact i2 y hy⟩
          · refine ⟨List.mem_cons_self, fun y hy => ?_⟩
            rcases List.mem_cons.mp hy with rfl | hy
            · exact Int.le_refl _
            · have := i2 y hy
              omega
    obtain ⟨k1, k2⟩ := key (b :: r) (by simp)
    have g1 := g _ (List.mem_cons_of_mem a k1)
    split
    · rcases List.mem_cons.mp h with rfl | h
      · omega
      · have := k2 m h
        omega
    · rcases List.mem_cons.mp h with rfl | h
      · rfl
      · have := k2 m h
        omega
theorem minI_of : ∀ (ns : List Int) (m : Int), m ∈ ns → (∀ y ∈ ns, m ≤ y) → minI ns = m
  | [], m, h, _ => by cases h
  | [a], m, h, _ => by
    rcases List.mem_cons.mp h with h | h
    · exact h.symm
    · cases h
  | a :: b :: r, m, h, g => by
    unfold minI
    have ga := g a List.mem_cons_self
    have key : ∀ (l : List Int), l ≠ [] → minI l ∈ l ∧ ∀ y ∈ l, minI l ≤ y := by
      intro l
      induction l with
      | nil => intro h; exact (h rfl).elim
      | cons a l ih =>
        intro _
        cases l with
        | nil => exact ⟨List.mem_cons_self, fun y hy => by rcases List.mem_cons.mp hy with rfl | hy; exact Int.le_refl _; cases hy⟩
        | cons b l =>
          obtain ⟨i1, i2⟩ := ih (by simp)
          unfold minI
          split
          · exact ⟨List.mem_cons_of_mem _ i1, fun y hy => by rcases List.mem_cons.mp hy with rfl | hy; assumption; exact i2 y hy⟩
          · refine ⟨List.mem_cons_self, fun y hy => ?_⟩
            rcases List.mem_cons.mp hy with rfl | hy
            · exact Int.le_refl _
            · have := i2 y hy
              omega
    obtain ⟨k1, k2⟩ := key (b :: r) (by simp)
    have g1 := g _ (List.mem_cons_of_mem a k1)
    split
    · rcases List.mem_cons.mp h with rfl | h
      · omega
      · have := k2 m h
        omega
    · rcases List.mem_cons.mp h with rfl | h
      · rfl
      · have := k2 m h
        omega
def gInts (f : List Int → Option Int) : PyData → Option PyData
  | .list ds => (intsOf ds).bind fun ns => (f ns).map dI
  | _ => none
theorem gInts_el {f : List Int → Option Int} {d z : PyData} (h : gInts f d = some z) : ∃ ds ns m, d = .list ds ∧ intsOf ds = some ns ∧ f ns = some m ∧ z = .int m := by
  unfold gInts at h
  split at h
  · rename_i ds
    cases e : intsOf ds with
    | none => rw [e] at h; cases h
    | some ns =>
      rw [e] at h
      cases e2 : f ns with
      | none => rw [show (some ns).bind (fun ns => (f ns).map dI) = (f ns).map dI from rfl, e2] at h; cases h
      | some m =>
        rw [show (some ns).bind (fun ns => (f ns).map dI) = (f ns).map dI from rfl, e2] at h
        cases h
        exact ⟨ds, ns, m, rfl, e, e2, rfl⟩
  · cases h
abbrev gMaxL := gInts fun ns => if ns = [] then none else some (maxI ns)
abbrev gMinL := gInts fun ns => if ns = [] then none else some (minI ns)
abbrev gSumL := gInts fun ns => some ns.sum
theorem pd_maxL {a : Expr} {ta : TD} {p pos : Pos} (hc : X.calm = true) (ha : PB X G a ta) (hm : X.mg "max" = none) (hg : Gl X "max" := by rfl) (hs : starEach [a] X.env = (false, eval a X.env) :: starEach [] X.env := by rfl) : PD X G (.Call (.Name "max" p) [a] [] pos) (dUn gMaxL ta) :=
  PE.wk (pe_callB (cr_max hc) hg hm (by decide +kernel) (pa_cons ha pa_nil hs) (he := hs)) (cl1 fun O H x dx z Q al bx e q => by
    obtain ⟨ds, ns, m, rfl, e1, e2, rfl⟩ := gInts_el e
    obtain ⟨a, vs, rfl, h1, d1⟩ := bx.lst
    have := ints_dv d1 e1
    subst this
    split at e2
    · cases e2
    · cases e2
      rename_i hn
      exact ⟨a, ns, rfl, sq_of h1, by cases ns; exact (hn rfl).elim; simp, fun m h2 h3 => by rw [maxI_of ns m h2 h3] at q; exact nw_now q (.int _)⟩)
theorem pd_minL {a : Expr} {ta : TD} {p pos : Pos} (hc : X.calm = true) (ha : PB X G a ta) (hm : X.mg "min" = none) (hg : Gl X "min" := by rfl) (hs : starEach [a] X.env = (false, eval a X.env) :: starEach [] X.env := by rfl) : PD X G (.Call (.Name "min" p) [a] [] pos) (dUn gMinL ta) :=
  PE.wk (pe_callB (cr_min hc) hg hm (by decide +kernel) (pa_cons ha pa_nil hs) (he := hs)) (cl1 fun O H x dx z Q al bx e q => by
    obtain ⟨ds, ns, m, rfl, e1, e2, rfl⟩ := gInts_el e
    obtain ⟨a, vs, rfl, h1, d1⟩ := bx.lst
    have := ints_dv d1 e1
    subst this
    split at e2
    · cases e2
    · cases e2
      rename_i hn
      exact ⟨a, ns, rfl, sq_of h1, by cases ns; exact (hn rfl).elim; simp, fun m h2 h3 => by rw [minI_of ns m h2 h3] at q; exact nw_now q (.int _)⟩)
theorem pd_sumL {a : Expr} {ta : TD} {p pos : Pos} (hc : X.calm = true) (ha : PB X G a ta) (hm : X.mg "sum" = none) (hg : Gl X "sum" := by rfl) (hs : starEach [a] X.env = (false, eval a X.env) :: starEach [] X.env := by rfl) : PD X G (.Call (.Name "sum" p) [a] [] pos) (dUn gSumL ta) :=
  PE.wk (pe_callB (cr_sum hc) hg hm (by decide +kernel) (pa_cons ha pa_nil hs) (he := hs)) (cl1 fun O H x dx z Q al bx e q => by
    obtain ⟨ds, ns, m, rfl, e1, e2, rfl⟩ := gInts_el e
    obtain ⟨a, vs, rfl, h1, d1⟩ := bx.lst
    have := ints_dv d1 e1
    subst this
    cases e2
    exact ⟨a, ns, rfl, sq_of h1, nw_now q (.int _)⟩)
end
end Dl
namespace Lw
open PySem PySem.Spec PyProof.Rows L2 Gd Dl
def strF (s a b : Addr) : Fr where
  S := fun x => x = s ∨ x = a ∨ x = b
  I := fun n H => Sm H s a b n
  s := .ref s
  keep := fun n H H' h k => by
    obtain ⟨⟨t, bigs, cells, h1, h2, h3, r⟩, p1, p2, p3⟩ := h
    exact ⟨⟨t, bigs, cells, k _ _ (.inl rfl) h1, k _ _ (.inr (.inl rfl)) h2, k _ _ (.inr (.inr rfl)) h3, r⟩, p1, p2, p3⟩
  al := fun n H x h k => by
    obtain ⟨⟨t, bigs, cells, h1, h2, h3, r⟩, p1, p2, p3⟩ := h
    rcases k with rfl | rfl | rfl
    · rw [h1]; exact fun z => by cases z
    · rw [h2]; exact fun z => by cases z
    · rw [h3]; exact fun z => by cases z
def IsS (F : Fr) : Prop := ∃ s a b, F = strF s a b
theorem kp_av {s a b : Addr} {H H' : Hp} (k : Kp (Av s a) H H') : Kp (strF s a b).S H H' := fun x o e n => k x o e fun z => n (z.elim .inl fun y => .inr (.inl y))
theorem args2 {B : Addr → Prop} {H : Hp} {vs : List V} {v : V} {d : PyData} (h : Paired (ArR B H) vs [.c v, .d d]) : ∃ u, vs = [v, u] ∧ Dv B H u d := by
  cases h with
  | cons h1 h2 =>
    cases h2 with
    | cons h3 h4 =>
      cases h4
      cases h1
      exact ⟨_, rfl, h3⟩
def C__law_draw : Con := fun F as n Q => ∃ m : Int, as = [.c F.s, .d (.int m)] ∧ IsS F ∧ n < 1000000 ∧ 0 < m ∧ m ≤ 1000000000 ∧ ∀ r : Int, 0 ≤ r → r < m → Q (.int r) (n + 1)
theorem draw_sp : ∀ vs H Q E, spD C__law_draw 2 vs H Q E → spDraw vs H Q E := by
  rintro vs H Q E ⟨hl, F, B, as, n, Qd, sb, hb, hv, i, im, m, rfl, ⟨s, a, b, rfl⟩, h1, h2, h3, q⟩
  obtain ⟨u, rfl, hu⟩ := args2 hv
  cases hu
  exact ⟨s, a, b, n, m, rfl, i, h1, h2, h3, fun H' r k sm r0 r1 => im _ _ _ H' (kp_av k) sm (.int r) (q r r0 r1)⟩
def C__law_row : Con := fun F as n Q => ∃ m : Int, as = [.c F.s, .d (.int m)] ∧ IsS F ∧ n < 900000 ∧ 1 ≤ m ∧ m ≤ 12 ∧ ∀ ns : List Int, 1 ≤ ns.length → (ns.length : Int) ≤ m → (∀ x ∈ ns, -1000000000 ≤ x ∧ x ≤ 1000000000) → Q (tupI ns) (n + 50)
theorem dvl_ints {O : Addr → Prop} {H : Hp} : ∀ ns : List Int, DvL O H (ns.map V.int) (ns.map dI)
  | [] => .nil
  | n :: r => .cons (.int n) (dvl_ints r)
theorem row_sp : ∀ vs H Q E, spD C__law_row 2 vs H Q E → spRow vs H Q E := by
  rintro vs H Q E ⟨hl, F, B, as, n, Qd, sb, hb, hv, i, im, m, rfl, ⟨s, a, b, rfl⟩, h1, h2, h3, q⟩
  obtain ⟨u, rfl, hu⟩ := args2 hv
  cases hu
  exact ⟨s, a, b, n, m, rfl, i, h1, h2, h3, fun H' p ns k sm hp e l1 l2 bd => im _ _ _ H' (kp_av k) sm (Dv.mkT e (fun z => hb p z hp) (dvl_ints ns)) (q ns l1 l2 bd)⟩
/-- behind the stream's making: the rest of the law over data -/
theorem law_go {t : Gx → TSd} {H1 : Hp} {s a b sc : Addr} {m : Nat} {D : Ends} (sm : Sm H1 s a b 0) (sem : ∀ G : Gx, IsS G.F → t G { nx := fun _ => False, rt := fun d _ => d = .bool true } ⟨.no :: .con G.F.s :: List.replicate m .no, 0⟩) (q : ∀ H', D.rt (.bl true) H') :
    ∃ G : Gx, lowS G (t G) D (some (.ref sc) :: some (.ref s) :: List.replicate m none) H1 := by
  let G : Gx := ⟨strF s a b, (strF s a b).S, H1, fun _ z => z, fun x z => (strF s a b).al 0 H1 x sm z⟩
  refine ⟨G, G.B, _, _, ?_, ?_, sem G ⟨s, a, b, rfl⟩⟩
  · have hno : ∀ {i : Nat} {sl : Sl}, (Sl.no :: Sl.con G.F.s :: List.replicate m Sl.no)[i]? = some sl → sl = .no ∨ (i = 1 ∧ sl = .con G.F.s) := by
      intro i sl h
      match i with
      | 0 => cases h; exact .inl rfl
      | 1 => cases h; exact .inr ⟨rfl, rfl⟩
      | i + 2 =>
        rw [List.getElem?_cons_succ, List.getElem?_cons_succ, List.getElem?_replicate] at h
        split at h
        · cases h; exact .inl rfl
        · cases h
    refine ⟨by simp, fun i d h => ?_, fun i ds h => ?_, fun i j di dj x h _ _ _ => ?_, fun i v h => ?_, sm, fun _ z => z, G.hb, Kp.refl _⟩
    · rcases hno h with z | ⟨_, z⟩ <;> cases z
    · rcases hno h with z | ⟨_, z⟩ <;> cases z
    · rcases hno h with z | ⟨_, z⟩ <;> cases z
    · rcases hno h with z | ⟨rfl, z⟩
      · cases z
      · cases z
        rfl
  · refine ⟨fun _ _ _ _ _ _ z => z.elim, fun v H' d n _ _ dv e => ?_, fun _ _ _ _ _ _ z => z.elim, fun _ _ _ _ _ _ z => z.elim⟩
    have e' : d = .bool true := e
    subst e'
    cases dv
    exact q H'
def spLaw (K : PySem.W.Frag) : Sp := fun vs H Q _ => ∃ (sc : Addr) (ns : List Int), vs = [.ref sc] ∧ SqL K H sc (ns.map V.int) ∧ ns.length ≤ 63 ∧ ∀ H', Q (.bl true) H'
structure Cal (P : Program) (w : World) (K : PySem.W.Frag) (mg : Str → Option Value) (base : Heap) (k : Nat) (x : Str) (f : Addr) (fd : FuncData) (ps : List Str) (sp : Sp) : Prop where
  G : FnOk P w K mg base CX0 k f fd ps sp
  kp : PySem.W.keepIn K (.ref f) = true
  b : Binds K fd ps []
  g : mg x = some (.ref f)
end Lw
/-! Loops and comprehensions over data: invariants. -/
namespace Dl
open PySem PySem.Spec PyProof.Rows L2 Gd
theorem rangeD_length (lo : Int) (n : Nat) : (rangeD lo n).length = n := by simp [rangeD]
theorem rangeD_get {lo : Int} {n i : Nat} (h : i < n) : (rangeD lo n)[i]? = some (.int (lo + (i : Nat))) := by
  unfold rangeD
  rw [List.getElem?_map, List.getElem?_range h]
  rfl
/-- a loop over items, by an invariant of the turn -/
theorem for_L {tg : Tg} {tb : TSd} {D : DEnds} (ds : List PyData) (I : Nat → En → Prop) {E : En} (h0 : I 0 E)
    (step : ∀ (i : Nat) (d : PyData) (E : En) (D' : DEnds), ds[i]? = some d → I i E → (∀ E', I (i + 1) E' → D'.nx E') → (∀ E', I (i + 1) E' → D'.ct E') → D'.bk = D.nx → D'.rt = D.rt → opt (tg.put d E.ρ) fun ρ => tb D' ⟨ρ, E.n⟩)
    (fin : ∀ E, I ds.length E → D.nx E) : dForL tg tb D ds E := by
  have key : ∀ (k i : Nat) (E : En), i + k = ds.length → I i E → dForL0 tg tb D (ds.drop i) E := by
    intro k
    induction k with
    | zero =>
      intro i E hi h
      rw [List.drop_eq_nil_of_le (by omega)]
      exact fin E (by have : i = ds.length := by omega
                      subst this; exact h)
    | succ k ih =>
      intro i E hi h
      have hl : i < ds.length := by omega
      rw [List.drop_eq_getElem_cons hl]
      exact step i _ E _ (List.getElem?_eq_getElem hl) h (fun E' h' => ih (i + 1) E' (by omega) h') (fun E' h' => ih (i + 1) E' (by omega) h') rfl rfl
  have := key ds.length 0 E (by omega) h0
  refine ⟨?_⟩
  simpa using this
theorem for_R {tg : Tg} {tb : TSd} {D : DEnds} (lo : Int) (n : Nat) (I : Nat → En → Prop) {E : En} (h0 : I 0 E)
    (step : ∀ (i : Nat) (E : En) (D' : DEnds), i < n → I i E → (∀ E', I (i + 1) E' → D'.nx E') → (∀ E', I (i + 1) E' → D'.ct E') → D'.bk = D.nx → D'.rt = D.rt → opt (tg.put (.int (lo + (i : Nat))) E.ρ) fun ρ => tb D' ⟨ρ, E.n⟩)
    (fin : ∀ E, I n E → D.nx E) : dForL tg tb D (rangeD lo n) E := by
  refine for_L (rangeD lo n) I h0 (fun i d E D' hd h a b c e => ?_) (fun E h => fin E (by rw [rangeD_length] at h; exact h))
  have hi : i < n := by
    have := (List.getElem?_eq_some_iff.mp hd).1
    rwa [rangeD_length] at this
  rw [rangeD_get hi] at hd
  cases hd
  exact step i E D' hi h a b c e
/-- a comprehension whose parts are told -/
theorem lc_P0 {tg : Tg} {tt : TDt} {te : TD} {ρ0 : List Sl} {Q : PyData → Nat → Prop} (ds : List PyData) (p : PyData → Bool) (f : PyData → PyData) : ∀ (acc : List PyData) (n : Nat),
    (∀ d ∈ ds, ∃ ρ, tg.put d ρ0 = some ρ ∧ (∀ (n : Nat) (R : Bool → Nat → Prop), R (p d) n → tt ⟨ρ, n⟩ R) ∧ (p d = true → ∀ (n : Nat) (R : PyData → Nat → Prop), R (f d) n → te ⟨ρ, n⟩ R)) → acc.length + ds.length ≤ 100000 → Q (.list (acc ++ (ds.filter p).map f)) n → dLcL0 tg tt te ρ0 Q ds acc n := by
  induction ds with
  | nil =>
    intro acc n _ _ q
    show Q _ n
    simpa using q
  | cons d ds ih =>
    intro acc n h hl q
    obtain ⟨ρ, e, h1, h2⟩ := h d List.mem_cons_self
    have hl' : acc.length + (ds.length + 1) ≤ 100000 := hl
    refine opt_of e (h1 n _ ?_)
    cases e2 : p d with
    | true =>
      rw [if_pos rfl]
      refine h2 e2 n _ ⟨by omega, ?_⟩
      refine ih _ n (fun d' hd' => h d' (List.mem_cons_of_mem _ hd')) (by simp; omega) ?_
      rw [List.filter_cons, e2, if_pos rfl] at q
      simpa using q
    | false =>
      rw [if_neg (by decide)]
      refine ih _ n (fun d' hd' => h d' (List.mem_cons_of_mem _ hd')) (by omega) ?_
      rw [List.filter_cons, e2, if_neg (by decide)] at q
      exact q
theorem lc_P {tg : Tg} {tt : TDt} {te : TD} {ρ0 : List Sl} {Q : PyData → Nat → Prop} (ds : List PyData) (p : PyData → Bool) (f : PyData → PyData) (acc : List PyData) (n : Nat)
    (h : ∀ d ∈ ds, ∃ ρ, tg.put d ρ0 = some ρ ∧ (∀ (n : Nat) (R : Bool → Nat → Prop), R (p d) n → tt ⟨ρ, n⟩ R) ∧ (p d = true → ∀ (n : Nat) (R : PyData → Nat → Prop), R (f d) n → te ⟨ρ, n⟩ R)) (hl : acc.length + ds.length ≤ 100000) (q : Q (.list (acc ++ (ds.filter p).map f)) n) : dLcL tg tt te ρ0 Q ds acc n := by
  refine ⟨?_⟩
  exact lc_P0 ds p f acc n h hl q
theorem lc_R {tg : Tg} {tt : TDt} {te : TD} {ρ0 : List Sl} {Q : PyData → Nat → Prop} (lo : Int) (m : Nat) (p : Nat → Bool) (f : Nat → PyData) {n : Nat}
    (h : ∀ i < m, ∃ ρ, tg.put (.int (lo + (i : Nat))) ρ0 = some ρ ∧ (∀ (n : Nat) (R : Bool → Nat → Prop), R (p i) n → tt ⟨ρ, n⟩ R) ∧ (p i = true → ∀ (n : Nat) (R : PyData → Nat → Prop), R (f i) n → te ⟨ρ, n⟩ R)) (hl : m ≤ 100000) (q : Q (.list (((List.range m).filter p).map f)) n) : dLcL tg tt te ρ0 Q (rangeD lo m) [] n := by
  let un : PyData → Nat := fun d => match d with | .int i => (i - lo).toNat | _ => 0
  have e : ∀ i : Nat, un (.int (lo + (i : Nat))) = i := fun i => by show (lo + (i : Nat) - lo).toNat = i; omega
  refine lc_P (rangeD lo m) (fun d => p (un d)) (fun d => f (un d)) [] n (fun d hd => ?_) (by rw [rangeD_length]; simpa using hl) ?_
  · unfold rangeD at hd
    obtain ⟨i, hi, rfl⟩ := List.mem_map.mp hd
    obtain ⟨ρ, h1, h2, h3⟩ := h i (List.mem_range.mp hi)
    refine ⟨ρ, h1, ?_, ?_⟩
    · rw [e]
      exact h2
    · rw [e]
      exact h3
  · have : ((rangeD lo m).filter fun d => p (un d)).map (fun d => f (un d)) = ((List.range m).filter p).map f := by
      unfold rangeD
      rw [List.filter_map, List.map_map]
      have e1 : (fun d => p (un d)) ∘ (fun i : Nat => PyData.int (lo + (i : Nat))) = p := funext fun i => by rw [Function.comp, e]
      have e2 : (fun d => f (un d)) ∘ (fun i : Nat => PyData.int (lo + (i : Nat))) = f := funext fun i => by rw [Function.comp, e]
      rw [e1, e2]
    rw [this]
    exact q
end Dl
namespace Dl
open PySem PySem.Spec PyProof.Rows L2 Gd
theorem ifT {b : Bool} {p q : Prop} (h1 : b = true → p) (h2 : b = false → q) : if b = true then p else q := by
  cases b with
  | true => rw [if_pos rfl]; exact h1 rfl
  | false => rw [if_neg (by decide)]; exact h2 rfl
theorem dec2 {p : Prop} [Decidable p] (h : p) : decide p = true := decide_eq_true h
end Dl
/-! What repr asks of data; equal texts. -/
namespace Dl
open PySem PySem.Spec PyProof.Rows L2 Gd
structure Fit (w k : Nat) (d : PyData) : Prop where
  sh : d.showable = true
  lv : d.leavesShort 100 = true
  wt : d.weight ≤ w
  dp : d.depth ≤ k
theorem Fit.mono {w w' k k' : Nat} {d : PyData} (h : Fit w k d) (hw : w ≤ w') (hk : k ≤ k') : Fit w' k' d := ⟨h.sh, h.lv, Nat.le_trans h.wt hw, Nat.le_trans h.dp hk⟩
theorem fit_int {i : Int} (h : i.natAbs < 10 ^ 45) : Fit 150 0 (.int i) := by
  have e : i.natAbs.log2 < 150 := by
    by_cases z : i.natAbs = 0
    · rw [z]
      decide
    · exact (Nat.log2_lt z).mpr (Nat.lt_of_lt_of_le h (by decide))
  refine ⟨?_, ?_, ?_, ?_⟩
  · rw [PyData.showable]
    exact decide_eq_true (by omega)
  · rw [PyData.leavesShort]
    refine decide_eq_true ?_
    rw [PyData.shown_int]
    have e := int_text_length_le10 (k := 45) (by decide) h
    rw [PySem.ofString_length]
    omega
  · rw [PyData.weight]
    split <;> omega
  · rw [PyData.depth]
    omega
theorem fit_non : Fit 0 0 .none := ⟨rfl, rfl, by rw [PyData.weight]; omega, by rw [PyData.depth]; omega⟩
theorem fit_bool {b : Bool} : Fit 0 0 (.bool b) := ⟨rfl, rfl, by rw [PyData.weight]; omega, by rw [PyData.depth]; omega⟩
theorem fit_all {w k : Nat} : ∀ {ds : List PyData}, (∀ d ∈ ds, Fit w k d) → PyData.showableAll ds = true ∧ PyData.leavesShortAll 100 ds = true ∧ PyData.weightAll ds ≤ (w + 1) * ds.length ∧ PyData.depthAll ds ≤ k
  | [], _ => ⟨rfl, rfl, by simp [PyData.weightAll], by simp [PyData.depthAll]⟩
  | d :: ds, h => by
    obtain ⟨i1, i2, i3, i4⟩ := fit_all (fun x hx => h x (List.mem_cons_of_mem _ hx))
    have f := h d List.mem_cons_self
    have fw := f.wt
    have fd := f.dp
    refine ⟨by rw [PyData.showableAll, f.sh, i1]; rfl, by rw [PyData.leavesShortAll, f.lv, i2]; rfl, ?_, ?_⟩
    · rw [PyData.weightAll, List.length_cons, Nat.mul_succ]
      omega
    · rw [PyData.depthAll]
      omega
theorem fit_tup {w k W : Nat} {ds : List PyData} (h : ∀ d ∈ ds, Fit w k d) (hw : (w + 1) * ds.length ≤ W) : Fit W (k + 1) (.tuple ds) := by
  obtain ⟨i1, i2, i3, i4⟩ := fit_all h
  exact ⟨by rw [PyData.showable]; exact i1, by rw [PyData.leavesShort]; exact i2, by rw [PyData.weight]; omega, by rw [PyData.depth]; omega⟩
theorem fit_lst {w k W : Nat} {ds : List PyData} (h : ∀ d ∈ ds, Fit w k d) (hw : (w + 1) * ds.length ≤ W) : Fit W (k + 1) (.list ds) := by
  obtain ⟨i1, i2, i3, i4⟩ := fit_all h
  exact ⟨by rw [PyData.showable]; exact i1, by rw [PyData.leavesShort]; exact i2, by rw [PyData.weight]; omega, by rw [PyData.depth]; omega⟩
theorem fit_tupI {ns : List Int} (h : ∀ x ∈ ns, x.natAbs < 10 ^ 45) {m : Nat} (hl : ns.length ≤ m) : Fit (151 * m) 1 (tupI ns) :=
  fit_tup (fun d hd => by obtain ⟨n, hn, rfl⟩ := List.mem_map.mp hd; exact fit_int (h n hn)) (by rw [List.length_map]; omega)
theorem fit_lstI {ns : List Int} (h : ∀ x ∈ ns, x.natAbs < 10 ^ 45) {m : Nat} (hl : ns.length ≤ m) : Fit (151 * m) 1 (lstI ns) :=
  fit_lst (fun d hd => by obtain ⟨n, hn, rfl⟩ := List.mem_map.mp hd; exact fit_int (h n hn)) (by rw [List.length_map]; omega)
theorem fit_two {w k : Nat} {d e : PyData} (h : Fit w k d) (h' : Fit w k e) : Fit (2 * (w + 1)) (k + 1) (.list [d, e]) :=
  fit_lst (fun x hx => by
    rcases List.mem_cons.mp hx with rfl | hx
    · exact h
    · rcases List.mem_cons.mp hx with rfl | hx
      · exact h'
      · cases hx) (by simp; omega)
theorem Fit.repr {w k : Nat} {d : PyData} (h : Fit w k d) (hw : w ≤ 150000 := by decide) (hk : k ≤ 60 := by decide) : gRepr d = some (.str d.shown) := by
  have z := PyData.shown_le 100 (by decide) _ h.lv
  have hwt := h.wt
  have hdp := h.dp
  unfold gRepr
  rw [h.sh, decide_eq_true (Nat.le_trans z (Nat.le_of_lt (Nat.lt_of_le_of_lt (by omega : _ ≤ 102 * 150000 + 100) (by decide)))), decide_eq_true (Nat.le_trans hdp hk)]
  rfl
theorem neq_self {s : Str} : gEq true (.str s) (.str s) = some (.bool false) := by
  unfold gEq
  show some (PyData.bool (true != decide (s = s))) = _
  rw [decide_eq_true rfl]
  rfl
theorem neq_int {i j : Int} : gEq true (.int i) (.int j) = some (.bool (!decide (i = j))) := by
  unfold gEq
  show some (PyData.bool (true != decide (i = j))) = _
  rw [Bool.true_bne]
theorem eq_int {i j : Int} : gEq false (.int i) (.int j) = some (.bool (decide (i = j))) := by
  unfold gEq
  show some (PyData.bool (false != decide (i = j))) = _
  rw [Bool.false_bne]
theorem gMaxL_of {ms : List Int} {m : Int} (h : m ∈ ms) (g : ∀ y ∈ ms, y ≤ m) : gMaxL (lstI ms) = some (.int m) := by
  unfold gMaxL gInts
  dsimp only
  rw [intsOf_map]
  show ((if ms = [] then none else some (maxI ms)) : Option Int).map dI = _
  rw [if_neg (by rintro rfl; cases h), maxI_of ms m h g]
  rfl
theorem shaped_ints {ns : List Int} : SeqAt.shaped (lstI ns) = true ∧ SeqAt.shaped (tupI ns) = true := by
  have h1 : ∀ ns : List Int, PyData.canLayAll0 (ns.map dI) = true ∧ PyData.depthAll (ns.map dI) = 0 := by
    intro ns
    induction ns with
    | nil => exact ⟨rfl, rfl⟩
    | cons n r ih => exact ⟨by rw [List.map_cons, PyData.canLayAll0, ih.1]; rfl, by rw [List.map_cons, PyData.depthAll, ih.2]; rfl⟩
  obtain ⟨a, b⟩ := h1 ns
  constructor <;> (unfold SeqAt.shaped; rw [PyData.canLay0, a, PyData.depth, b]; rfl)
theorem eqv_ints : ∀ (ns ms : List Int), PyData.eqvAll (ns.map dI) (ms.map dI) = decide (ns = ms)
  | [], [] => rfl
  | [], _ :: _ => rfl
  | _ :: _, [] => rfl
  | n :: ns, m :: ms => by
    rw [List.map_cons, List.map_cons, PyData.eqvAll, eqv_ints ns ms, PyData.eqv]
    by_cases e : n = m
    · subst e
      simp
    · simp [e]
theorem eq_lstI {neg : Bool} {ns ms : List Int} : gEq neg (lstI ns) (lstI ms) = some (.bool (neg != decide (ns = ms))) := by
  unfold gEq
  show (if (SeqAt.shaped (lstI ns) && SeqAt.shaped (lstI ms)) = true then some (PyData.bool (neg != PyData.eqv (lstI ns) (lstI ms))) else none) = _
  rw [shaped_ints.1, shaped_ints.1]
  rw [Bool.and_true, if_pos rfl, PyData.eqv, eqv_ints]
theorem eq_tupI {neg : Bool} {ns ms : List Int} : gEq neg (tupI ns) (tupI ms) = some (.bool (neg != decide (ns = ms))) := by
  unfold gEq
  show (if (SeqAt.shaped (tupI ns) && SeqAt.shaped (tupI ms)) = true then some (PyData.bool (neg != PyData.eqv (tupI ns) (tupI ms))) else none) = _
  rw [shaped_ints.2, shaped_ints.2]
  rw [Bool.and_true, if_pos rfl, PyData.eqv, eqv_ints]
end Dl
namespace Dl
open PySem PySem.Spec PyProof.Rows L2 Gd
section
variable {X : Cx} {G : Gx}
/-! a, b = x, y -/
def zPar (js : List Nat) (ts : TDa) : TSd := fun D E => ts E fun as n => opt (dats as) fun ds => D.nx ⟨setsD E.ρ js ds, n⟩
theorem par_two {O : Addr → Prop} {H : Hp} {σ : L2.St} {E : En} {vs : List V} {ds : List PyData} {i j : Nat} (r : Rel G O σ H E) (d : DvL O H vs ds) (hl : vs.length = 2) : ∃ v w, vs = [v, w] ∧ Rel G O ((σ.set i (some v)).set j (some w)) H ⟨setsD E.ρ [i, j] ds, E.n⟩ := by
  have := rel_sets (G := G) [i, j] vs ds σ E r d
  match vs, hl with
  | [v, w], _ => exact ⟨v, w, rfl, this⟩
theorem z_par {i j : Nat} {x y : Str} {a b : Expr} {ts : TDa} {px py pt pos : Pos} {kt k2 pt2} (hc : X.calm = true) (hN : X.N.Nodup) (hi : X.N[i]? = some x) (hj : X.N[j]? = some y) (hij : i ≠ j)
    (hx : X.env.scope.names.lookup x = some .local) (hy : X.env.scope.names.lookup y = some .local) (ha : PR X G [a, b] ts)
    (hw : swappedStores [.Tuple [.Name x px, .Name y py] kt pt] (.Tuple [a, b] k2 pt2) X.env = pure (some [x, y]))
    (hs : swapsWithSole [.Tuple [.Name x px, .Name y py] kt pt] (.Tuple [a, b] k2 pt2) pos.line X.env = pure false := by rfl) :
    PZ X G (.Assign [.Tuple [.Name x px, .Name y py] kt pt] (.Tuple [a, b] k2 pt2) pos) (zPar [i, j] (fun E Q => ts E fun as n => as.length = 2 ∧ Q as n)) := PS.wk (ps_par hc hN hi hj hij hx hy ha hw hs) fun D σ H ⟨O, E, Dd, r, k, z⟩ => by
  refine ⟨O, E, _, r, ?_, z⟩
  rintro as n vs H1 k1 i1 rv ⟨hl, q1⟩
  obtain ⟨ds, e, q⟩ := opt_el q1
  obtain ⟨v, w, rfl, r2⟩ := par_two (i := i) (j := j) (r.step k1 i1) (dats_dv rv e) (rv.length.trans hl)
  exact ⟨v, w, rfl, k.nx O _ H1 _ (r.lt k1) r2 q⟩
theorem z_par3 {i j l : Nat} {x y z : Str} {a b c : Expr} {ts : TDa} {px py pz pt pos : Pos} {kt k2 pt2} (hc : X.calm = true) (hN : X.N.Nodup) (hi : X.N[i]? = some x) (hj : X.N[j]? = some y) (hl : X.N[l]? = some z) (hij : i ≠ j) (hil : i ≠ l) (hjl : j ≠ l)
    (hx : X.env.scope.names.lookup x = some .local) (hy : X.env.scope.names.lookup y = some .local) (hz : X.env.scope.names.lookup z = some .local) (ha : PR X G [a, b, c] ts)
    (hw : swappedStores [.Tuple [.Name x px, .Name y py, .Name z pz] kt pt] (.Tuple [a, b, c] k2 pt2) X.env = pure (some [x, y, z]))
    (hs : swapsWithSole [.Tuple [.Name x px, .Name y py, .Name z pz] kt pt] (.Tuple [a, b, c] k2 pt2) pos.line X.env = pure false := by rfl) :
    PZ X G (.Assign [.Tuple [.Name x px, .Name y py, .Name z pz] kt pt] (.Tuple [a, b, c] k2 pt2) pos) (zPar [i, j, l] (fun E Q => ts E fun as n => as.length = 3 ∧ Q as n)) := PS.wk (ps_par3 hc hN hi hj hl hij hil hjl hx hy hz ha hw hs) fun D σ H ⟨O, E, Dd, r, k, z⟩ => by
  refine ⟨O, E, _, r, ?_, z⟩
  rintro as n vs H1 k1 i1 rv ⟨hl, q1⟩
  obtain ⟨ds, e, q⟩ := opt_el q1
  have d := dats_dv rv e
  have r2 := rel_sets (G := G) [i, j, l] vs ds σ _ (r.step k1 i1) d
  match vs, rv.length.trans hl with
  | [u, v, w], _ => exact ⟨u, v, w, rfl, k.nx O _ H1 _ (r.lt k1) r2 q⟩
end
end Dl
namespace Dl
open PySem PySem.Spec PyProof.Rows L2 Gd
section
variable {X : Cx} {G : Gx}
/-! ### range(a, b, -1) -/
def downD (lo : Int) (n : Nat) : List PyData := (List.range n).map fun i => .int (lo - (i : Nat))
theorem wk_down {O : Addr → Prop} {H : Hp} (lo : Int) (n : Nat) : Wk O H (Itc lo (-1) n) (downD lo n) := by
  intro O2 H2 _ _ i
  refine ⟨fun d e => ?_, fun h => ?_⟩
  · unfold downD at e
    rw [List.getElem?_map, Option.map_eq_some_iff] at e
    obtain ⟨j, e1, rfl⟩ := e
    have hj : i < n := by
      have := (List.getElem?_eq_some_iff.mp e1).1
      simpa using this
    have : j = i := by
      rw [List.getElem?_range hj] at e1
      exact (Option.some.inj e1).symm
    subst this
    refine ⟨hj, ?_⟩
    rintro x H3 ⟨rfl, rfl⟩
    refine ⟨fun _ _ e => e, ?_⟩
    have : lo + (j : Nat) * (-1 : Int) = lo - (j : Nat) := by omega
    rw [this]
    exact .int _
  · unfold downD at h
    have : n = i := by simpa using h
    exact Nat.le_of_eq this
def iRg3 (t u v : TD) : TId := fun E Q => t E fun d n => u ⟨E.ρ, n⟩ fun e m => v ⟨E.ρ, m⟩ fun c l => match d, e, c with
  | .int i, .int j, .int (-1) => decide (-(2 ^ 62) ≤ i ∧ i < 2 ^ 62 ∧ -(2 ^ 62) ≤ j ∧ j < 2 ^ 62) = true ∧ Q (downD i (i - j).toNat) l
  | _, _, _ => False
theorem j_range3 {tg a b c : Expr} {t u v : TD} {p pos : Pos} (ha : PD X G a t) (hb : PD X G b u) (hc : PD X G c v) (hm : X.mg "range" = none) (hg : Gl X "range" := by rfl) (hs : starEach [a, b, c] X.env = (false, eval a X.env) :: starEach [b, c] X.env := by rfl)
    (hpl : (backTo pos (starEach [b, c] X.env)).any (·.1) = false := by rfl) (hs2 : starEach [b, c] X.env = (false, eval b X.env) :: starEach [c] X.env := by rfl) (hs3 : starEach [c] X.env = (false, eval c X.env) :: starEach [] X.env := by rfl) : PJ X G tg (.Call (.Name "range" p) [a, b, c] [] pos) (iRg3 t u v) :=
  PI.wk (pi_range3 hg hm (pa_cons ha (pa_cons hb (pa_cons hc pa_nil hs3) hs2) hs) hs hpl) fun σ H R ⟨O, E, Qd, r, im, z⟩ => by
    refine ⟨O, E, _, r, ?_, z⟩
    rintro d n x H1 k1 i1 rv q1
    have r1 := r.step k1 i1
    refine ⟨O, _, _, r1, ?_, q1⟩
    rintro d2 m x2 H2 k2 i2 rv2 q2
    have r2 := r1.step k2 i2
    refine ⟨O, _, _, r2, ?_, q2⟩
    rintro d3 l x3 H3 k3 i3 rv3 q3
    split at q3
    · cases rv
      cases rv2
      cases rv3
      obtain ⟨h, q⟩ := q3
      have h' := of_decide_eq_true h
      exact ⟨_, _, _, _, rfl, RgC.neg h'.1 h'.2.1 h'.2.2.1 h'.2.2.2, im _ l _ H3 ((k1.trans k2).trans k3) i3 (wk_down _ _) q⟩
    · exact q3.elim
/-! ### slices -/
abbrev TDo := En → (Option Int → Nat → Prop) → Prop
def lowO (G : Gx) (t : TDo) : TO := fun σ H Q => ∃ (O : Addr → Prop) (E : En) (Qd : Option Int → Nat → Prop), Rel G O σ H E ∧ (∀ o n H', Kp G.F.S H H' → G.F.I n H' → Qd o n → Q o H') ∧ t E Qd
theorem PO.wk {e : Option Expr} {t u : TO} (h : PO X e t) (k : ∀ σ H Q, u σ H Q → t σ H Q) : PO X e u := ⟨fun p s σ H Q I z => h.run p s σ H Q I (k σ H Q z)⟩
def oNon : TDo := fun E Q => Q none E.n
def oSom (t : TD) : TDo := fun E Q => t E fun d n => match d with | .int i => Q (some i) n | _ => False
theorem po_non : PO X none (lowO G oNon) := PO.wk po_none fun σ H Q ⟨O, E, Qd, r, im, z⟩ => im none E.n H (Kp.refl H) r.str z
theorem po_som {e : Expr} {t : TD} (h : PB X G e t) : PO X (some e) (lowO G (oSom t)) := PO.wk (po_some h) fun σ H Q ⟨O, E, Qd, r, im, z⟩ => by
  refine ⟨O, E, _, r, ?_, z⟩
  rintro d n v H1 k1 i1 rv q1
  split at q1
  · exact ⟨_, rv.bw.int, im _ n H1 k1 i1 q1⟩
  · exact q1.elim
def cutD (ds : List PyData) (lo hi : Option Int) : List PyData := (ds.drop (HT.sIx ds.length 0 lo)).take (HT.sIx ds.length ds.length hi - HT.sIx ds.length 0 lo)
theorem cut_dv {O : Addr → Prop} {H : Hp} {vs : List V} {ds : List PyData} (h : DvL O H vs ds) (lo hi : Option Int) : DvL O H (cutV vs lo hi) (cutD ds lo hi) := by
  unfold cutV cutD
  rw [h.length]
  exact (h.dropL _).takeL _
def dSl (g : PyData → Option Int → Option Int → Option PyData) (t : TD) (a b : TDo) : TD := fun E Q => t E fun d n => a ⟨E.ρ, n⟩ fun i m => b ⟨E.ρ, m⟩ fun j l => opt (g d i j) fun z => Q z l
@[irreducible] def gSlT : PyData → Option Int → Option Int → Option PyData
  | .tuple ds, i, j => some (.tuple (cutD ds i j))
  | _, _, _ => none
@[irreducible] def gSlL : PyData → Option Int → Option Int → Option PyData
  | .list ds, i, j => some (.list (cutD ds i j))
  | _, _, _ => none
theorem pd_slT {e : Expr} {lo hi : Option Expr} {t : TD} {a b : TDo} {p2 pos : Pos} (he : PB X G e t) (hl : PO X lo (lowO G a)) (hu : PO X hi (lowO G b)) : PD X G (.Subscript e (.Slice lo hi none p2) pos) (dSl gSlT t a b) := PE.wk (pe_slice sl_tupA he hl hu) fun σ H Q ⟨O, E, Qd, r, im, z⟩ => by
  refine ⟨O, E, _, r, ?_, z⟩
  rintro d n v H1 k1 i1 rv q1
  have r1 := r.step k1 i1
  refine ⟨O, _, _, r1, ?_, q1⟩
  rintro i m H2 k2 i2 q2
  have r2 := r1.step k2 i2
  refine ⟨O, _, _, r2, ?_, q2⟩
  rintro j l H3 k3 i3 q3
  have r3 := r2.step k3 i3
  obtain ⟨w, e, q⟩ := opt_el q3
  unfold gSlT at e
  split at e
  · cases e
    obtain ⟨x, vs, rfl, h1, d1, w1⟩ := ((rv.kp r1 k2 (H1 := H)).kp r2 k3 (H1 := H)).bw.tup
    refine ⟨x, vs, rfl, st_of h1, fun hw => ?_, fun _ p hp => ?_⟩
    · refine im _ l _ H3 ((k1.trans k2).trans k3) i3 ?_ q
      rename_i ds
      rw [d1.length] at hw
      have : cutD ds i j = ds := by
        unfold cutD
        rw [hw.1, hw.2]
        simp
      rw [this]
      exact w1
    · refine nw_tup (Q := Q) r3.al (fun v H' s dv => ?_) hp (cut_dv d1 i j)
      obtain ⟨k4, i4⟩ := r3.fin s
      exact im _ l v H' (((k1.trans k2).trans k3).trans k4) i4 dv q
  · cases e
theorem pl_sl {e : Expr} {lo hi : Option Expr} {t : TD} {a b : TDo} {p2 pos : Pos} (he : PB X G e t) (hl : PO X lo (lowO G a)) (hu : PO X hi (lowO G b)) : PL X G (.Subscript e (.Slice lo hi none p2) pos) (dSl gSlL t a b) := PE.wk (pe_slice sl_list he hl hu) fun σ H Q ⟨O, E, Qd, r, im, z⟩ => by
  refine ⟨O, E, _, r, ?_, z⟩
  rintro d n v H1 k1 i1 rv q1
  have r1 := r.step k1 i1
  refine ⟨O, _, _, r1, ?_, q1⟩
  rintro i m H2 k2 i2 q2
  have r2 := r1.step k2 i2
  refine ⟨O, _, _, r2, ?_, q2⟩
  rintro j l H3 k3 i3 q3
  have r3 := r2.step k3 i3
  obtain ⟨w, e, q⟩ := opt_el q3
  unfold gSlL at e
  split at e
  · cases e
    obtain ⟨x, vs, rfl, h1, d1⟩ := ((rv.kp r1 k2 (H1 := H)).kp r2 k3 (H1 := H)).bw.lst
    refine ⟨x, vs, rfl, sq_of h1, fun p hp => ?_⟩
    refine nw_lst (Q := Q) (O := O) (fun v H' s ⟨a, us, es, e1, e2, e3, e4, e5⟩ => ?_) hp (cut_dv d1 i j)
    obtain ⟨k4, i4⟩ := r3.fin s
    refine im _ l v H' (((k1.trans k2).trans k3).trans k4) i4 ⟨a, us, es, e1, e2, ?_, e4, e5⟩ q
    have kk := (k1.trans k2).trans k3
    cases e0 : H a with
    | none => rfl
    | some u =>
      by_cases qs : G.F.S a
      · exact (G.F.al l H3 a i3 qs e3).elim
      · rw [kk a u e0 qs] at e3
        cases e3
  · cases e
/-! ### list(range(..)) -/
theorem dvl_rg {O : Addr → Prop} {H : Hp} (a b : Int) : DvL O H (rgV a b) (rangeD a (b - a).toNat) := by
  unfold rgV rangeD
  have : ∀ l : List Nat, DvL O H (l.map fun i => V.int (a + (i : Nat))) (l.map fun i => PyData.int (a + (i : Nat))) := by
    intro l
    induction l with
    | nil => exact .nil
    | cons x l ih => exact .cons (.int _) ih
  exact this _
def dRgL (t u : TD) : TD := fun E Q => t E fun d n => u ⟨E.ρ, n⟩ fun e m => match d, e with | .int i, .int j => decide (-(2 ^ 20) ≤ i ∧ i < 2 ^ 20 ∧ -(2 ^ 20) ≤ j ∧ j < 2 ^ 20) = true ∧ Q (.list (rangeD i (j - i).toNat)) m | _, _ => False
theorem pl_listRg2 {a b : Expr} {t u : TD} {p p2 pos pos2 : Pos} (hc : X.calm = true) (ha : PD X G a t) (hb : PD X G b u) (hml : X.mg "list" = none) (hm : X.mg "range" = none) (hgl : Gl X "list" := by rfl) (hg : Gl X "range" := by rfl)
    (na : starEach [a, b] X.env = (false, eval a X.env) :: starEach [b] X.env := by rfl) (nb : starEach [b] X.env = (false, eval b X.env) :: starEach [] X.env := by rfl) (hp : (backTo pos2 (starEach [b] X.env)).any (·.1) = false := by rfl)
    (nc : starEach [.Call (.Name "range" p2) [a, b] [] pos2] X.env = (false, eval (.Call (.Name "range" p2) [a, b] [] pos2) X.env) :: starEach [] X.env := by rfl) :
    PL X G (.Call (.Name "list" p) [.Call (.Name "range" p2) [a, b] [] pos2] [] pos) (dRgL t u) := PE.wk (pe_listRg hc hgl hml (prg_2 hg hm ha hb na nb hp) nc) fun σ H Q ⟨O, E, Qd, r, im, z⟩ => by
  refine ⟨O, E, _, r, ?_, z⟩
  rintro d n v H1 k1 i1 rv q1
  have r1 := r.step k1 i1
  refine ⟨O, _, _, r1, ?_, q1⟩
  rintro d2 m v2 H2 k2 i2 rv2 q2
  have r2 := r1.step k2 i2
  split at q2
  · cases rv
    cases rv2
    obtain ⟨h, q⟩ := q2
    have h' := of_decide_eq_true h
    refine ⟨_, _, rfl, rfl, ⟨by omega, by omega, by omega, by omega, by omega⟩, fun l hl => ?_⟩
    refine nw_lst (Q := Q) (O := O) (fun v H' s ⟨a, us, es, e1, e2, e3, e4, e5⟩ => ?_) hl (dvl_rg _ _)
    obtain ⟨k3, i3⟩ := r2.fin s
    refine im _ m v H' ((k1.trans k2).trans k3) i3 ⟨a, us, es, e1, e2, ?_, e4, e5⟩ q
    have kk := k1.trans k2
    cases e0 : H a with
    | none => rfl
    | some u =>
      by_cases qs : G.F.S a
      · exact (G.F.al m H2 a i2 qs e3).elim
      · rw [kk a u e0 qs] at e3
        cases e3
  · exact q2.elim
/-- a comprehension, by an invariant of what is made -/
theorem lc_I {tg : Tg} {tt : TDt} {te : TD} {ρ0 : List Sl} {Q : PyData → Nat → Prop} (ds : List PyData) (I : Nat → List PyData → Nat → Prop) {n : Nat} (h0 : I 0 [] n)
    (step : ∀ (i : Nat) (d : PyData) (acc : List PyData) (n : Nat) (K : List PyData → Nat → Prop), ds[i]? = some d → I i acc n → (∀ acc' n', I (i + 1) acc' n' → K acc' n') → opt (tg.put d ρ0) fun ρ => tt ⟨ρ, n⟩ fun b m => if b = true then te ⟨ρ, m⟩ fun y k => acc.length < 100000 ∧ K (acc ++ [y]) k else K acc m)
    (fin : ∀ acc n, I ds.length acc n → Q (.list acc) n) : dLcL tg tt te ρ0 Q ds [] n := by
  have key : ∀ (k i : Nat) (acc : List PyData) (n : Nat), i + k = ds.length → I i acc n → dLcL0 tg tt te ρ0 Q (ds.drop i) acc n := by
    intro k
    induction k with
    | zero =>
      intro i acc n hi h
      rw [List.drop_eq_nil_of_le (by omega)]
      have : i = ds.length := by omega
      subst this
      exact fin acc n h
    | succ k ih =>
      intro i acc n hi h
      have hl : i < ds.length := by omega
      rw [List.drop_eq_getElem_cons hl]
      exact step i _ acc n (fun a m => dLcL0 tg tt te ρ0 Q (ds.drop (i + 1)) a m) (List.getElem?_eq_getElem hl) h (fun a m h' => ih (i + 1) a m (by omega) h')
  refine ⟨?_⟩
  simpa using key ds.length 0 [] n (by omega) h0
end
end Dl
namespace Dl
open PySem PySem.Spec PyProof.Rows L2 Gd
theorem ix_map {f : Nat → PyData} {N : Nat} {x : Int} {j : Nat} (e : x = (j : Nat)) (h : j < N) : gIx (.list ((List.range N).map f)) (.int x) = some (f j) := by
  subst e
  show atI ((List.range N).map f) (j : Int) = _
  unfold atI ixN
  rw [if_pos (by omega), if_pos (by simp; omega)]
  show ((List.range N).map f)[(j : Int).toNat]? = _
  rw [Int.toNat_natCast, List.getElem?_map, List.getElem?_range h]
  rfl
theorem gSumL_of {ms : List Int} : gSumL (lstI ms) = some (.int ms.sum) := by
  unfold gSumL gInts
  dsimp only
  rw [intsOf_map]
  rfl
end Dl
namespace Dl
open PySem PySem.Spec PyProof.Rows L2 Gd
theorem for_Z {tg : Tg} {tb : TSd} {D : DEnds} (n : Nat) (I : Nat → En → Prop) {E : En} (h0 : I 0 E)
    (step : ∀ (i : Nat) (E : En) (D' : DEnds), i < n → I i E → (∀ E', I (i + 1) E' → D'.nx E') → (∀ E', I (i + 1) E' → D'.ct E') → D'.bk = D.nx → D'.rt = D.rt → opt (tg.put (.int (i : Nat)) E.ρ) fun ρ => tb D' ⟨ρ, E.n⟩)
    (fin : ∀ E, I n E → D.nx E) : dForL tg tb D (rangeD 0 n) E :=
  for_R 0 n I h0 (fun i E D' hi h a b c e => by rw [Int.zero_add]; exact step i E D' hi h a b c e) fin
theorem downD_length (lo : Int) (n : Nat) : (downD lo n).length = n := by simp [downD]
theorem for_D {tg : Tg} {tb : TSd} {D : DEnds} (lo : Int) (n : Nat) (I : Nat → En → Prop) {E : En} (h0 : I 0 E)
    (step : ∀ (i : Nat) (E : En) (D' : DEnds), i < n → I i E → (∀ E', I (i + 1) E' → D'.nx E') → (∀ E', I (i + 1) E' → D'.ct E') → D'.bk = D.nx → D'.rt = D.rt → opt (tg.put (.int (lo - (i : Nat))) E.ρ) fun ρ => tb D' ⟨ρ, E.n⟩)
    (fin : ∀ E, I n E → D.nx E) : dForL tg tb D (downD lo n) E := by
  refine for_L (downD lo n) I h0 (fun i d E D' hd h a b c e => ?_) (fun E h => fin E (by rw [downD_length] at h; exact h))
  have hi : i < n := by
    have := (List.getElem?_eq_some_iff.mp hd).1
    rwa [downD_length] at this
  have : (downD lo n)[i]? = some (.int (lo - (i : Nat))) := by
    unfold downD
    rw [List.getElem?_map, List.getElem?_range hi]
    rfl
  rw [this] at hd
  cases hd
  exact step i E D' hi h a b c e
theorem lc_Z {tg : Tg} {tt : TDt} {te : TD} {ρ0 : List Sl} {Q : PyData → Nat → Prop} (m : Nat) (p : Nat → Bool) (f : Nat → PyData) {n : Nat}
    (h : ∀ i < m, ∃ ρ, tg.put (.int (i : Nat)) ρ0 = some ρ ∧ (∀ (n : Nat) (R : Bool → Nat → Prop), R (p i) n → tt ⟨ρ, n⟩ R) ∧ (p i = true → ∀ (n : Nat) (R : PyData → Nat → Prop), R (f i) n → te ⟨ρ, n⟩ R)) (hl : m ≤ 100000) (q : Q (.list (((List.range m).filter p).map f)) n) : dLcL tg tt te ρ0 Q (rangeD 0 m) [] n :=
  lc_R 0 m p f (fun i hi => by rw [Int.zero_add]; exact h i hi) hl q
theorem add_tup {a b : List Int} (h : a.length + b.length ≤ 100000) : gAdd (tupI a) (tupI b) = some (tupI (a ++ b)) := by
  show (if small2 (a.map dI) (b.map dI) = true then some (PyData.tuple (a.map dI ++ b.map dI)) else none) = _
  unfold small2
  rw [decide_eq_true (by simpa using h), if_pos rfl, ← List.map_append]
theorem cat_lst {a b : List PyData} (h : a.length + b.length ≤ 100000) : gCatL (.list a) (.list b) = some (.list (a ++ b)) := by
  show (if small2 a b = true then some (PyData.list (a ++ b)) else none) = _
  unfold small2
  rw [decide_eq_true h, if_pos rfl]
theorem cut_take {ms : List Int} {t : Nat} {x : Int} (e : x = (t : Nat)) (h : t ≤ ms.length) : gSlT (tupI ms) none (some x) = some (tupI (ms.take t)) := by
  subst e
  unfold gSlT
  show some (PyData.tuple (cutD (ms.map dI) none (some (t : Int)))) = _
  have : cutD (ms.map dI) none (some (t : Int)) = (ms.take t).map dI := by
    unfold cutD
    rw [HT.sIx_none, HT.sIx_nat, List.length_map, List.drop_zero, Nat.sub_zero, Nat.min_eq_left h, List.map_take]
  rw [this]
end Dl
namespace Dl
open PySem PySem.Spec PyProof.Rows L2 Gd
def tyD : PyData → String
  | .none => "NoneType"
  | .bool _ => "bool"
  | .int _ => "int"
  | .str _ => "str"
  | .list _ => "list"
  | .tuple _ => "tuple"
  | .dict _ => "dict"
def isiD (T : String) (d : PyData) : Bool := tyD d == T || (T == "int" && tyD d == "bool")
section
variable {X : Cx} {G : Gx}
theorem Bw.ty {K : PySem.W.Frag} {O : Addr → Prop} {H : Hp} {v : V} {d : PyData} (h : Bw O H v d) : TyX K H v (.type (tyD d)) := by
  rcases h with h | ⟨a, vs, ds, rfl, rfl, e3, _⟩
  · cases h with
    | non => exact .base .non
    | bl b => exact .base (.bl b)
    | int i => exact .base (.int i)
    | str x => exact .base (.str x)
    | lst e n l f => exact .base (.lst e)
    | tup e n l f => exact .base (.tup e)
    | dct e n p => exact .base (.dK e)
  · exact .base (.lst e3)
def gIsi (T : String) (d : PyData) : Option PyData := some (.bool (isiD T d))
theorem isi_core {T : String} {x : Str} {a : Expr} {ta : TD} {p p2 pos : Pos} (kit : ∀ (K : PySem.W.Frag) (d : PyData), PySem.W.kitOne K (.type (tyD d)) (.type T) = some (isiD T d)) (hT : PE X (.Name x p2) (tC (.ty T))) (ha : PB X G a ta) (hm : X.mg "isinstance" = none) (hg : Gl X "isinstance")
    (hs : starEach [a, .Name x p2] X.env = (false, eval a X.env) :: starEach [.Name x p2] X.env) (hs2 : starEach [.Name x p2] X.env = (false, eval (.Name x p2) X.env) :: starEach [] X.env) (hpl : (backTo pos (starEach [.Name x p2] X.env)).any (·.1) = false) : PD X G (.Call (.Name "isinstance" p) [a, .Name x p2] [] pos) (dUn (gIsi T) ta) :=
  PE.wk (pe_callB call_isi hg hm (by decide +kernel) (pa_cons ha (pa_cons hT pa_nil hs2) hs) (he := hs) (hpl := hpl)) fun σ H Q ⟨O, E, Qd, rl, im, z⟩ => by
    refine ⟨O, E, _, rl, ?_, z⟩
    rintro dx n x H1 k1 i1 rx q1
    obtain ⟨w, e, q⟩ := opt_el q1
    cases e
    exact ⟨x, .ty T, _, _, _, rfl, .ty T, rx.bw.ty, kit _ dx, im _ n _ H1 k1 i1 (.bl _) q⟩
theorem kit_int (K : PySem.W.Frag) (d : PyData) : PySem.W.kitOne K (.type (tyD d)) (.type "int") = some (isiD "int" d) := by cases d <;> rfl
theorem kit_bool (K : PySem.W.Frag) (d : PyData) : PySem.W.kitOne K (.type (tyD d)) (.type "bool") = some (isiD "bool" d) := by cases d <;> rfl
theorem kit_tuple (K : PySem.W.Frag) (d : PyData) : PySem.W.kitOne K (.type (tyD d)) (.type "tuple") = some (isiD "tuple" d) := by cases d <;> rfl
theorem kit_str (K : PySem.W.Frag) (d : PyData) : PySem.W.kitOne K (.type (tyD d)) (.type "str") = some (isiD "str" d) := by cases d <;> rfl
theorem pd_isi_int {a : Expr} {ta : TD} {p p2 pos : Pos} (ha : PB X G a ta) (hm : X.mg "isinstance" = none) (ht : X.mg "int" = none) (hg : Gl X "isinstance" := by rfl) (hgt : Gl X "int" := by rfl) (hs : starEach [a, .Name "int" p2] X.env = (false, eval a X.env) :: starEach [.Name "int" p2] X.env := by rfl)
    (hs2 : starEach [.Name "int" p2] X.env = (false, eval (.Name "int" p2) X.env) :: starEach [] X.env := by rfl) (hpl : (backTo pos (starEach [.Name "int" p2] X.env)).any (·.1) = false := by rfl) : PD X G (.Call (.Name "isinstance" p) [a, .Name "int" p2] [] pos) (dUn (gIsi "int") ta) :=
  isi_core kit_int (pe_bltn (v := .ty "int") hgt ht (by decide +kernel) rfl) ha hm hg hs hs2 hpl
theorem pd_isi_bool {a : Expr} {ta : TD} {p p2 pos : Pos} (ha : PB X G a ta) (hm : X.mg "isinstance" = none) (ht : X.mg "bool" = none) (hg : Gl X "isinstance" := by rfl) (hgt : Gl X "bool" := by rfl) (hs : starEach [a, .Name "bool" p2] X.env = (false, eval a X.env) :: starEach [.Name "bool" p2] X.env := by rfl)
    (hs2 : starEach [.Name "bool" p2] X.env = (false, eval (.Name "bool" p2) X.env) :: starEach [] X.env := by rfl) (hpl : (backTo pos (starEach [.Name "bool" p2] X.env)).any (·.1) = false := by rfl) : PD X G (.Call (.Name "isinstance" p) [a, .Name "bool" p2] [] pos) (dUn (gIsi "bool") ta) :=
  isi_core kit_bool (pe_bltn (v := .ty "bool") hgt ht (by decide +kernel) rfl) ha hm hg hs hs2 hpl
theorem pd_isi_tuple {a : Expr} {ta : TD} {p p2 pos : Pos} (ha : PB X G a ta) (hm : X.mg "isinstance" = none) (ht : X.mg "tuple" = none) (hg : Gl X "isinstance" := by rfl) (hgt : Gl X "tuple" := by rfl) (hs : starEach [a, .Name "tuple" p2] X.env = (false, eval a X.env) :: starEach [.Name "tuple" p2] X.env := by rfl)
    (hs2 : starEach [.Name "tuple" p2] X.env = (false, eval (.Name "tuple" p2) X.env) :: starEach [] X.env := by rfl) (hpl : (backTo pos (starEach [.Name "tuple" p2] X.env)).any (·.1) = false := by rfl) : PD X G (.Call (.Name "isinstance" p) [a, .Name "tuple" p2] [] pos) (dUn (gIsi "tuple") ta) :=
  isi_core kit_tuple (pe_bltn (v := .ty "tuple") hgt ht (by decide +kernel) rfl) ha hm hg hs hs2 hpl
/-- a statement that is never reached -/
theorem z_never {st : Stmt} : PZ X G st (fun _ _ => False) := PS.wk (ps_never) fun D σ H ⟨O, E, Dd, r, k, z⟩ => z
/-- a call as a statement: what it returns is dropped -/
def zDrop (t : TD) : TSd := fun D E => t E fun _ n => D.nx ⟨E.ρ, n⟩
theorem z_drop {e : Expr} {t : TD} {pos : Pos} (he : PD X G e t) (hs : swapsWith e none pos.line X.env = pure false := by rfl) : PZ X G (.Expr e pos) (zDrop t) := PS.wk (ps_expr he hs) fun D σ H ⟨O, E, Dd, r, k, z⟩ => by
  refine ⟨O, E, _, r, ?_, z⟩
  rintro d n v H1 k1 i1 rv q1
  exact k.nx O σ H1 _ (r.lt k1) (r.step k1 i1) q1
end
end Dl
namespace Dl
open PySem PySem.Spec PyProof.Rows L2 Gd
theorem fn_false {P : Program} {w : World} {K : PySem.W.Frag} {mg : Str → Option Value} {base : Heap} {k m : Nat} {f : Addr} {fd : FuncData} {ps : List Str} {C : Con} (hm : m = ps.length) (h : ∀ F as n Q, ¬ C F as n Q) : FnOk P w K mg base CX0 k f fd ps (spD C m) :=
  ⟨fun vs H Q E q => q.1.trans hm, fun A outer s H args us vs Q E _ _ _ _ ⟨_, F, B, as, n, Qd, _, _, _, _, _, c⟩ => (h F as n Qd c).elim⟩
theorem maxN : ∀ (L : List Nat), L ≠ [] → ∃ m ∈ L, ∀ y ∈ L, y ≤ m
  | [], h => (h rfl).elim
  | [a], _ => ⟨a, List.mem_cons_self, fun y hy => by simp at hy; omega⟩
  | a :: b :: r, _ => by
    obtain ⟨m, h1, h2⟩ := maxN (b :: r) (by simp)
    by_cases z : a ≤ m
    · exact ⟨m, List.mem_cons_of_mem _ h1, fun y hy => by rcases List.mem_cons.mp hy with rfl | hy; exact z; exact h2 y hy⟩
    · exact ⟨a, List.mem_cons_self, fun y hy => by rcases List.mem_cons.mp hy with rfl | hy; exact Nat.le_refl _; have := h2 y hy; omega⟩
end Dl
/-! Shapes: the mathematics. -/
namespace Sh
def en (ns : List Int) (i : Nat) : Int := ns.getD i 0
/-- p - j for the greatest j below k whose entry is at most that of p, 0 if there is none -/
def prevLe (ns : List Int) (p : Nat) : Nat → Nat
  | 0 => 0
  | k + 1 => if en ns k ≤ en ns p then p - k else prevLe ns p k
def dist (ns : List Int) (p : Nat) : Nat := prevLe ns p p
def shp (ns : List Int) : List Int := (List.range ns.length).map fun p => ((dist ns p : Nat) : Int)
theorem shp_length (ns : List Int) : (shp ns).length = ns.length := by simp [shp]
theorem prevLe_le (ns : List Int) (p : Nat) : ∀ k, prevLe ns p k ≤ p
  | 0 => Nat.zero_le _
  | k + 1 => by
    unfold prevLe
    split
    · omega
    · exact prevLe_le ns p k
theorem dist_le (ns : List Int) (p : Nat) : dist ns p ≤ p := prevLe_le ns p p
theorem shp_bd {ns : List Int} {x : Int} (h : x ∈ shp ns) : 0 ≤ x ∧ x ≤ ns.length := by
  unfold shp at h
  obtain ⟨p, hp, rfl⟩ := List.mem_map.mp h
  have := List.mem_range.mp hp
  have := dist_le ns p
  omega
/-- the greatest of those ahead -/
theorem prevLe_max (ns : List Int) (p : Nat) : ∀ k, (prevLe ns p k = 0 ∨ True) ∧ (((List.range k).filter fun j => decide (en ns j ≤ en ns p)) = [] → prevLe ns p k = 0) ∧
    (∀ m : Nat, m ∈ ((List.range k).filter fun j => decide (en ns j ≤ en ns p)) → (∀ y ∈ ((List.range k).filter fun j => decide (en ns j ≤ en ns p)), y ≤ m) → prevLe ns p k = p - m)
  | 0 => ⟨.inr trivial, fun _ => rfl, fun m h => by simp at h⟩
  | k + 1 => by
    obtain ⟨_, i1, i2⟩ := prevLe_max ns p k
    refine ⟨.inr trivial, fun h => ?_, fun m h g => ?_⟩
    · rw [List.range_succ, List.filter_append, List.append_eq_nil_iff] at h
      unfold prevLe
      rw [if_neg ?_]
      · exact i1 h.1
      · intro z
        have := h.2
        simp [z] at this
    · rw [List.range_succ, List.filter_append] at h g
      unfold prevLe
      by_cases z : en ns k ≤ en ns p
      · rw [if_pos z]
        have hk : k ≤ m := g k (List.mem_append_right _ (by simp [z]))
        have : m ≤ k := by
          rcases List.mem_append.mp h with q | q
          · have := List.mem_range.mp (List.mem_filter.mp q).1
            omega
          · have := List.mem_filter.mp q
            simp at this
            omega
        have : m = k := by omega
        rw [this]
      · rw [if_neg z]
        refine i2 m ?_ fun y hy => g y (List.mem_append_left _ hy)
        rcases List.mem_append.mp h with q | q
        · exact q
        · have := List.mem_filter.mp q
          simp at this
          rw [this.1] at this
          exact (z this.2).elim
end Sh
namespace Sh
open PySem PySem.Spec PyProof.Rows L2 Gd Dl
theorem ix_row {ns : List Int} {x : Int} {i : Nat} (e : x = (i : Nat)) (h : i < ns.length) : gIx (tupI ns) (.int x) = some (.int (en ns i)) := by
  subst e
  exact get_tupI h
theorem ix_rowL {ns : List Int} {x : Int} {i : Nat} (e : x = (i : Nat)) (h : i < ns.length) : gIx (lstI ns) (.int x) = some (.int (en ns i)) := by
  subst e
  exact get_tupI h
end Sh
namespace Sh
open PySem PySem.Spec PyProof.Rows L2 Gd Dl
theorem en_shp {ns : List Int} {p : Nat} (h : p < ns.length) : en (shp ns) p = (dist ns p : Nat) := by
  unfold shp en
  rw [List.getD_eq_getElem?_getD, List.getElem?_map, List.getElem?_range h]
  rfl
theorem prevLe_spec (ns : List Int) (p : Nat) : ∀ k, k ≤ p → (∃ j, j < k ∧ en ns j ≤ en ns p ∧ (∀ i, j < i → i < k → en ns p < en ns i) ∧ prevLe ns p k = p - j) ∨ ((∀ i, i < k → en ns p < en ns i) ∧ prevLe ns p k = 0)
  | 0, _ => .inr ⟨fun i h => by omega, rfl⟩
  | k + 1, h => by
    unfold prevLe
    by_cases z : en ns k ≤ en ns p
    · rw [if_pos z]
      exact .inl ⟨k, by omega, z, fun i h1 h2 => by omega, rfl⟩
    · rw [if_neg z]
      rcases prevLe_spec ns p k (by omega) with ⟨j, h1, h2, h3, h4⟩ | ⟨h1, h2⟩
      · refine .inl ⟨j, by omega, h2, fun i i1 i2 => ?_, h4⟩
        by_cases e : i = k
        · subst e; omega
        · exact h3 i i1 (by omega)
      · refine .inr ⟨fun i i2 => ?_, h2⟩
        by_cases e : i = k
        · subst e; omega
        · exact h1 i (by omega)
/-- the distance of p is 0 or leads to a place before f -/
def lead (ns : List Int) (p f : Nat) : Bool := decide (dist ns p = 0) || decide ((p : Int) - (dist ns p : Nat) < f)
theorem lead_iff (ns : List Int) {p f : Nat} : lead ns p f = true ↔ ∀ i, f ≤ i → i < p → en ns p < en ns i := by
  unfold lead dist
  rcases prevLe_spec ns p p (Nat.le_refl _) with ⟨j, h1, h2, h3, h4⟩ | ⟨h1, h2⟩
  · rw [h4]
    have e0 : ¬ (p - j = 0) := by omega
    rw [decide_eq_false e0, Bool.false_or, decide_eq_true_eq]
    constructor
    · intro z i i1 i2
      exact h3 i (by omega) i2
    · intro z
      by_cases e : f ≤ j
      · have := z j e h1
        omega
      · omega
  · rw [h2, decide_eq_true rfl, Bool.true_or]
    exact ⟨fun _ i _ i2 => h1 i i2, fun _ => rfl⟩
/-- the first least place of f .. f + k -/
def best (ns : List Int) (f : Nat) : Nat → Nat
  | 0 => f
  | k + 1 => if en ns (f + k + 1) < en ns (best ns f k) then f + k + 1 else best ns f k
theorem best_bd (ns : List Int) (f : Nat) : ∀ k, f ≤ best ns f k ∧ best ns f k ≤ f + k
  | 0 => ⟨Nat.le_refl _, Nat.le_refl _⟩
  | k + 1 => by
    have := best_bd ns f k
    unfold best
    split <;> omega
theorem best_min (ns : List Int) (f : Nat) : ∀ k i, f ≤ i → i ≤ f + k → en ns (best ns f k) ≤ en ns i
  | 0, i, h1, h2 => by
    have : i = f := by omega
    subst this
    exact Int.le_refl _
  | k + 1, i, h1, h2 => by
    unfold best
    by_cases e : i = f + k + 1
    · subst e
      split <;> omega
    · have := best_min ns f k i h1 (by omega)
      split <;> omega
theorem lead_best (ns : List Int) (f k : Nat) : lead ns (f + k + 1) f = decide (en ns (f + k + 1) < en ns (best ns f k)) := by
  have b := best_bd ns f k
  by_cases z : en ns (f + k + 1) < en ns (best ns f k)
  · rw [decide_eq_true z]
    exact (lead_iff ns).mpr fun i i1 i2 => Int.lt_of_lt_of_le z (best_min ns f k i i1 (by omega))
  · rw [decide_eq_false z]
    cases e : lead ns (f + k + 1) f with
    | false => rfl
    | true => exact (z ((lead_iff ns).mp e _ b.1 (by omega))).elim
theorem lead_first (ns : List Int) (f : Nat) : lead ns f f = true := (lead_iff ns).mpr fun i i1 i2 => by omega
/-- the tree of the places f .. f + s - 1 -/
def trD (ns : List Int) : Nat → Nat → Nat → PyData
  | 0, _, _ => .tuple []
  | k + 1, f, s => if s = 0 then .tuple [] else .tuple [trD ns k f (best ns f (s - 1) - f), trD ns k (best ns f (s - 1) + 1) (f + s - 1 - best ns f (s - 1))]
theorem trD_fuel (ns : List Int) : ∀ k k' f s, s ≤ k → s ≤ k' → trD ns k f s = trD ns k' f s
  | 0, 0, f, s, _, _ => rfl
  | 0, k' + 1, f, s, h, _ => by
    have : s = 0 := by omega
    subst this
    rfl
  | k + 1, 0, f, s, _, h => by
    have : s = 0 := by omega
    subst this
    rfl
  | k + 1, k' + 1, f, s, h, h' => by
    unfold trD
    by_cases z : s = 0
    · rw [if_pos z, if_pos z]
    · rw [if_neg z, if_neg z]
      have b := best_bd ns f (s - 1)
      rw [trD_fuel ns k k' f _ (by omega) (by omega), trD_fuel ns k k' _ _ (by omega) (by omega)]
theorem trD_fit (ns : List Int) : ∀ k f s, Fit (3 * s) (k + 1) (trD ns k f s)
  | 0, f, s => fit_tup (w := 0) (k := 0) (fun d hd => by cases hd) (by simp)
  | k + 1, f, s => by
    unfold trD
    split
    · exact (fit_tup (w := 0) (k := 0) (W := 0) (fun d hd => by cases hd) (by simp)).mono (by omega) (by omega)
    · have b := best_bd ns f (s - 1)
      have f1 := trD_fit ns k f (best ns f (s - 1) - f)
      have f2 := trD_fit ns k (best ns f (s - 1) + 1) (f + s - 1 - best ns f (s - 1))
      refine ⟨?_, ?_, ?_, ?_⟩
      · rw [PyData.showable, PyData.showableAll, PyData.showableAll, PyData.showableAll, f1.sh, f2.sh]
        rfl
      · rw [PyData.leavesShort, PyData.leavesShortAll, PyData.leavesShortAll, PyData.leavesShortAll, f1.lv, f2.lv]
        rfl
      · have w1 := f1.wt
        have w2 := f2.wt
        rw [PyData.weight, PyData.weightAll, PyData.weightAll, PyData.weightAll]
        omega
      · have d1 := f1.dp
        have d2 := f2.dp
        rw [PyData.depth, PyData.depthAll, PyData.depthAll, PyData.depthAll]
        omega
end Sh
/-! the first store into a new exception of an own class, over any base -/
namespace Gd
open PySem PySem.Spec PyProof.Rows PySem.HandSPX PySem.W
open PySem.Builtin PySem.Builtin.ObjectAttr
section
variable {prog : Program} {w : World} {A : Around} {R : Result → Shared → Prop} {hp : Heap} {g : Array GenState} {d : Drawn} {t : Nat} {os : OsState}
theorem osaX {K : W.Frag} {name : Str} {tk : Tok} {v : Value} {x C : Addr} {fv : Array Value} {cd : ClassData} {tl : List Value} (pass : ∀ self : Value, refuseLoop self "__setattr__" tl = pure ()) (obj : tl.contains (.type "object") = true)
    (X : K.In hp) (hx : hp.get? x = some { cls := .ref C, data := .fields fv }) (hcd : W.clsIn K C = some cd) (hm : excTail tl cd.mro = true) (hh : cd.hasDict = true) (ha : W.findIn K (.ref C) name = some none)
    (q : ∀ h' tk' dx, (∀ b o, b ≠ x → hp.get? b = some o → h'.get? b = some o) → hp.objs.size ≤ dx → dx ≠ x → h'.get? x = some { cls := .ref C, dict := some dx, data := .fields fv } →
      h'.Ns1 dx (fun y => if y = name then some v else none) → R (.ok (.ret .none)) ⟨h', g, d, tk', os⟩) :
    codeAny (model prog w) A (.call (.builtin "object.__setattr__") ⟨[.ref x, .str name tk, v], []⟩) R ⟨hp, g, d, t, os⟩ := by
  have inst : W.InstAt hp x { cls := .ref C, data := .fields fv } C none := ⟨hx, rfl, rfl, trivial⟩
  have SF := PySem.F.store_object
  have isObj : cd.mro.contains (.type "object") = true := (excTail_contains "object" _ hm).trans obj
  have full : cd.mro.isEmpty = false := by
    cases z : cd.mro with
    | nil => rw [z] at isObj; cases isObj
    | cons _ _ => rfl
  have off : x ≠ hp.objs.size := Nat.ne_of_lt (Heap.lt_size hx)
  have sub : W.Looks (model prog w) hp (isInstance (.ref x) (.type "object")) true := by
    refine inst.type.andThen (W.looks_mroIn X ?_)
    unfold W.mroIn
    rw [hcd, Option.bind_some, if_neg (by rw [full]; decide), isObj]
  refine codeAny_call_builtin SF.slot.plain SF.entry ?_
  refine @W.check_slot (model prog w) _ _ ⟨hp, g, d, t, os⟩ "object.__setattr__" "object" "__setattr__" (.ref x) [.str name tk, v] [] _ SF.kind SF.split sub (SF.args (.ref x) (.str name tk) v) ?_
  have order : W.Looks (model prog w) hp (mroOf (.ref C)) cd.mro := (W.looks_clsIn X hcd).andThen .now
  have taker : W.Looks (model prog w) hp (storeTaker? none) none := .now
  have data : W.Looks (model prog w) hp (classData C) cd := W.looks_clsIn X hcd
  rw [W.osa_eq, refuse_eq]
  refine wpAny_bind (wpAny_bind (inst.type.at (wpAny_bind (order.at ?_))))
  rw [excTail_pass (.ref x) (pass _) _ hm]
  refine wpAny_pure (wpAny_bind (inst.type.at (wpAny_bind ((W.looks_findIn X ha).at ?_))))
  refine wpAny_bind (taker.at ?_)
  show wpAny _ _ (storeInOwnDict (.ref x) (.ref C) (.str name tk) name v false) _ _ _
  obtain ⟨nm, bs, mro, ns, qn, hd, sn, sb, ab, col, del⟩ := cd
  dsimp only at hh
  subst hh
  unfold storeInOwnDict ownDictForStores
  repeat (first | with_reducible refine store_in_new ?_ ?_ | with_reducible refine wpAny_loadPart_at hx ?_ | with_reducible refine data.at ?_ | wp_step)
  · refine ⟨_, #[], _, (Heap.get?_update_ne _ _ _ _ off.symm).trans (Heap.get?_push_at rfl rfl), rfl, ?_, fun _ => rfl⟩
    intro e he
    exact absurd he (by simp)
  · intro h' tk' hn' hs
    have was : (hp.push { cls := .type "dict", data := .dict #[] }).get? x = some { cls := .ref C, data := .fields fv } := Heap.get?_push_of_some _ hx
    refine q h' tk' hp.objs.size ?_ (Nat.le_refl _) off.symm ((hs.2 x off).trans (Heap.get?_update_self _ was rfl)) hn'
    intro b o hb ho
    exact (hs.2 b (Nat.ne_of_lt (Heap.lt_size ho))).trans ((Heap.get?_update_ne _ _ _ _ hb).trans (Heap.get?_push_of_some _ ho))
end
end Gd
namespace Dl
open PySem PySem.Spec PyProof.Rows L2 Gd
section
variable {X : Cx} {G : Gx}
/-- x, y = a new list, data -/
def zParL (i j : Nat) (tl td : TD) : TSd := fun D E => tl E fun d n => td ⟨E.ρ, n⟩ fun x m => match d with | .list ds => D.nx ⟨(E.ρ.set i (.own ds)).set j (.dat x), m⟩ | _ => False
theorem z_parL {i j : Nat} {x y : Str} {a b : Expr} {tl td : TD} {px py pt pos : Pos} {kt k2 pt2} (hc : X.calm = true) (hN : X.N.Nodup) (hi : X.N[i]? = some x) (hj : X.N[j]? = some y) (hij : i ≠ j)
    (hx : X.env.scope.names.lookup x = some .local) (hy : X.env.scope.names.lookup y = some .local) (ha : PL X G a tl) (hb : PD X G b td)
    (hw : swappedStores [.Tuple [.Name x px, .Name y py] kt pt] (.Tuple [a, b] k2 pt2) X.env = pure (some [x, y]))
    (hs : swapsWithSole [.Tuple [.Name x px, .Name y py] kt pt] (.Tuple [a, b] k2 pt2) pos.line X.env = pure false := by rfl) (hs1 : starEach [a, b] X.env = (false, eval a X.env) :: starEach [b] X.env := by rfl) (hs2 : starEach [b] X.env = (false, eval b X.env) :: starEach [] X.env := by rfl) :
    PZ X G (.Assign [.Tuple [.Name x px, .Name y py] kt pt] (.Tuple [a, b] k2 pt2) pos) (zParL i j tl td) := PS.wk (ps_par hc hN hi hj hij hx hy (pa_cons ha (pa_cons hb pa_nil hs2) hs1) hw hs) fun D σ H ⟨O, E, Dd, r, k, z⟩ => by
  refine ⟨O, E, _, r, ?_, z⟩
  rintro d n v H1 k1 i1 ⟨a, vs, ds, rfl, rfl, e3, e4, e5⟩ q1
  have r1 := r.step k1 i1
  have nO : ¬ O a := fun y => r.al a y e3
  have nS : ¬ G.F.S a := fun y => nO (r.sO a y)
  have hs0 : G.Hs a = none := by
    cases e0 : G.Hs a with
    | none => rfl
    | some u =>
      by_cases qs : G.F.S a
      · exact (nS qs).elim
      · rw [r.kp a u e0 qs] at e3
        cases e3
  have L1 : Later O H (fun x => O x ∨ x = a) H1 := ⟨fun x y => y.elim .inl fun y => .inr (y ▸ e3), fun x u y ny => (r.lt k1).h x u y ny⟩
  have r2 : Rel G (fun x => O x ∨ x = a) σ H1 ⟨E.ρ, n⟩ := by
    refine ⟨r1.len, fun j d e => ?_, fun j es e => ?_, r1.dif, r1.con, i1, fun x y => .inl (r1.bo x y), fun x y => ?_, r1.kp⟩
    · obtain ⟨v, y1, y2⟩ := r.dat j d e
      exact ⟨v, y1, Dv.later L1 y2⟩
    · obtain ⟨b, ws, y1, y2, y3, y4, y5⟩ := r.own j es e
      exact ⟨b, ws, y1, k1 _ _ y2 (fun y => G.hb b (G.sb b y) y4), .inl y3, y4, y5.later L1⟩
    · rcases y with y | y
      · exact r1.al x y
      · subst y
        rw [e4]
        exact fun y => by cases y
  refine ⟨_, _, _, r2, ?_, q1⟩
  rintro x m v2 H2 k2 i2 rv2 q2
  have r3 := r2.step k2 i2
  have e4' := k2 _ _ e4 nS
  have e5' := e5.later (r2.lt k2)
  refine ⟨_, _, rfl, k.nx _ _ H2 _ (L1.trans (r2.lt k2)) ((r3.setOwn e4' hs0 (.inr rfl) e5' fun j dj nj ej y => ?_).set rv2) q2⟩
  obtain ⟨b, ws, y1, y2, y3, _⟩ := r.own j dj ej
  rw [y] at y1
  cases y1
  exact nO y3
theorem ixN_nat {n k : Nat} {x : Int} (e : x = (k : Nat)) (h : k < n) : ixN n x = some k := by
  subst e
  unfold ixN
  rw [if_pos (by omega), if_pos (by omega), Int.toNat_natCast]
end
end Dl
namespace Dl
open PySem PySem.Spec PyProof.Rows L2 Gd
section
variable {X : Cx} {G : Gx}
def rSetTup (K : PySem.W.Frag) (w : World) : List V → Hp → VK → Prop := fun xs H Q => ∃ (a : Addr) (ns : List Int), xs = [.ref a] ∧ SqT K H a (ns.map V.int) ∧ ns.length < 60 ∧ ∀ p c, c ≤ ns.length → H p = none → Q (.ref p) (upd H p (SetO w p (fun j => decide (j ∈ ns)) c))
theorem cr_setTup (hc : X.calm = true) : CallR X (.type "set") (rSetTup X.K X.w) := by
  intro pins s σ H xs us Q I r h
  obtain ⟨a, ns, rfl, hs, hb, q⟩ := h
  rw [Vals.ref1 r]
  obtain ⟨its, rv, p, hz⟩ := I.tuple hs
  refine call_set_tupI ns (I.ok.hd hc) (show s.heap.IsTuple a its.toArray from p) (by simpa using intsAre_of rv) (Nat.lt_of_lt_of_le (by omega : ns.length + 1 < 64) (by decide)) fun h' tk c R hc' keep => ?_
  exact ⟨.ref _, upd H s.heap.objs.size (SetO X.w s.heap.objs.size (fun j => decide (j ∈ ns)) c), I.laid (t' := tk) keep (Nat.le_refl _) (setO_new R), rfl, q _ c hc' (I.hok.fresh (Nat.le_refl _))⟩
/-- sorted(set(t)), t a tuple of whole numbers: some list of them, ascending -/
def dSS (t : TD) : TD := fun E Q => t E fun d n => match d with
  | .tuple ds => opt (intsOf ds) fun ns => ns.length < 60 ∧ ∀ ms : List Int, ms.Pairwise (· < ·) → (∀ k, k ∈ ms ↔ k ∈ ns) → ms.length ≤ ns.length → Q (lstI ms) n
  | _ => False
theorem pl_sortedSet {e : Expr} {t : TD} {p p2 pos pos2 : Pos} (hc : X.calm = true) (he : PB X G e t) (hm : X.mg "sorted" = none) (hm2 : X.mg "set" = none) (hg : Gl X "sorted" := by rfl) (hg2 : Gl X "set" := by rfl)
    (hs : starEach [e] X.env = (false, eval e X.env) :: starEach [] X.env := by rfl) (hs2 : starEach [.Call (.Name "set" p2) [e] [] pos2] X.env = (false, eval (.Call (.Name "set" p2) [e] [] pos2) X.env) :: starEach [] X.env := by rfl) :
    PL X G (.Call (.Name "sorted" p) [.Call (.Name "set" p2) [e] [] pos2] [] pos) (dSS t) :=
  PE.wk (pe_callB (cr_sortedSet hc) hg hm (by decide +kernel) (pa_cons (pe_callTy (cr_setTup hc) hg2 hm2 (by decide +kernel) (pa_cons he pa_nil hs) (he := hs)) pa_nil hs2) (he := hs2)) fun σ H Q ⟨O, E, Qd, r, im, z⟩ => by
    refine ⟨O, E, _, r, ?_, z⟩
    rintro d n v H1 k1 i1 rv q1
    have r1 := r.step k1 i1
    split at q1
    · obtain ⟨ns, e1, hl, q⟩ := opt_el q1
      obtain ⟨a, vs, rfl, h1, d1, _⟩ := rv.bw.tup
      have := ints_dv d1 e1
      subst this
      refine ⟨a, ns, rfl, st_of h1, hl, fun p c hcl hp => ?_⟩
      refine ⟨p, _, c, rfl, upd_same, by omega, fun ms p5 pw mem len hp5 => ?_⟩
      have s2 := same_upd' (o := SetO X.w p (fun j => decide (j ∈ ns)) c) hp
      have s3 := same_upd' (o := .lst (ms.map V.int)) hp5
      have dv : DvL (fun x => O x ∨ x = p5) (upd (upd H1 p (SetO X.w p (fun j => decide (j ∈ ns)) c)) p5 (.lst (ms.map V.int))) (ms.map V.int) (ms.map dI) := by
        have : ∀ l : List Int, DvL (fun x => O x ∨ x = p5) (upd (upd H1 p (SetO X.w p (fun j => decide (j ∈ ns)) c)) p5 (.lst (ms.map V.int))) (l.map V.int) (l.map dI) := by
          intro l
          induction l with
          | nil => exact .nil
          | cons x l ih => exact .cons (.int x) ih
        exact this ms
      have ss : Same H1 (upd (upd H1 p (SetO X.w p (fun j => decide (j ∈ ns)) c)) p5 (.lst (ms.map V.int))) := fun b o e => s3 b o (s2 b o e)
      obtain ⟨k3, i3⟩ := r1.fin ss
      refine im _ n _ _ (k1.trans k3) i3 ⟨p5, _, _, rfl, rfl, ?_, upd_same, dv⟩ (q ms pw (fun k => by rw [mem k]; exact decide_eq_true_iff) (by omega))
      have h15 : H1 p5 = none := by
        by_cases c5 : p5 = p
        · rw [c5]; exact hp
        · rw [upd_ne c5] at hp5
          exact hp5
      cases e0 : H p5 with
      | none => rfl
      | some u =>
        by_cases qs : G.F.S p5
        · exact (G.F.al n H1 p5 i1 qs h15).elim
        · rw [k1 p5 u e0 qs] at h15
          cases h15
    · exact q1.elim
/-- xs.index(k), whole numbers -/
def gIdx : PyData → PyData → Option PyData
  | .list ds, .int k => (intsOf ds).bind fun ns => if k ∈ ns then some (.int (ns.idxOf k : Nat)) else none
  | _, _ => none
def dIdx (ta tb : TD) : TD := fun E Q => ta E fun x n => match x with | .list ds => tb ⟨E.ρ, n⟩ fun y m => opt (gIdx (.list ds) y) fun z => Q z m | _ => False
theorem eqV_int {i j : Int} : eqV (.int i) (.int j) = decide (i = j) := by
  unfold eqV
  by_cases h : i = j <;> simp [h]
theorem pd_index {o e : Expr} {ta tb : TD} {apos cpos : Pos} (ho : PB X G o ta) (he : PB X G e tb) (hbase : attributeBase o "index" X.env (eval o X.env) = eval o X.env := by rfl)
    (hfew : ((backTo cpos (starEach [e] X.env)).all (fun x => !x.1) && (backToKw cpos (keywordEach [] X.env)).all (fun x => x.1.isSome) && decide (([e] : List Expr).length + ([] : List Keyword).length + (if ([] : List Keyword).isEmpty then 0 else 1) < 30)) = true := by rfl)
    (hline : (apos.endLine == cpos.line) = true := by rfl) (hst : starEach [e] X.env = (false, eval e X.env) :: starEach [] X.env := by rfl) : PD X G (.Call (.Attribute o "index" apos) [e] [] cpos) (dIdx ta tb) :=
  PE.wk (pe_bm PySem.F.plainAttrs_list PySem.F.slot_list_index PySem.F.type_list_index mt_index ho (pa_cons he pa_nil hst) hbase hfew hline hst) fun σ H Q ⟨O, E, Qd, r, im, z⟩ => by
    refine ⟨O, E, _, r, ?_, z⟩
    rintro dx n x H1 k1 i1 rx q1
    have r1 := r.step k1 i1
    split at q1
    · rename_i ds
      obtain ⟨a, vs, rfl, h1, d1⟩ := rx.bw.lst
      refine ⟨.inl ⟨rfl, _, sq_of h1⟩, O, _, _, r1, ?_, q1⟩
      rintro dy m y H2 k2 i2 ry q2
      obtain ⟨w, e1, q⟩ := opt_el q2
      obtain ⟨a', vs', ea, h2, d2⟩ := (rx.kp r1 k2 (H1 := H)).bw.lst
      cases ea
      unfold gIdx at e1
      split at e1
      · rename_i ds' k heq
        cases heq
        cases ry.bw.int
        cases e2 : intsOf ds with
        | none => rw [e2] at e1; cases e1
        | some ns =>
          rw [e2] at e1
          have ev := ints_dv d2 e2
          subst ev
          have e3 : (if k ∈ ns then some (PyData.int (ns.idxOf k : Nat)) else none) = some w := e1
          split at e3
          · rename_i hk
            cases e3
            have hlt : ns.idxOf k < ns.length := List.idxOf_lt_length_of_mem hk
            refine ⟨a, _, .int k, ns.idxOf k, .int k, rfl, rfl, sq_of h2, rfl, ?_, ?_, ?_, fun j z' hj hz => ?_, im _ m _ H2 (k1.trans k2) i2 (.int _) q⟩
            · rw [List.all_eq_true]
              intro x hx
              obtain ⟨i, _, rfl⟩ := List.mem_map.mp hx
              rfl
            · rw [List.getElem?_map, List.getElem?_eq_getElem hlt, List.getElem_idxOf hlt]
              rfl
            · rw [eqV_int]
              exact decide_eq_true rfl
            · have hjl : j < ns.length := by omega
              rw [List.getElem?_map, List.getElem?_eq_getElem hjl] at hz
              cases hz
              rw [eqV_int]
              refine decide_eq_false fun e => ?_
              have := List.not_of_lt_findIdx (p := (· == k)) (xs := ns) (i := j) hj
              simp [e] at this
          · cases e3
      · cases e1
    · exact q1.elim
end
end Dl
namespace Dl
open PySem PySem.Spec PyProof.Rows L2 Gd
section
variable {X : Cx} {G : Gx}
def enumFrom (k : Nat) : List PyData → List PyData
  | [] => []
  | d :: ds => .tuple [.int (k : Nat), d] :: enumFrom (k + 1) ds
def enumD (ds : List PyData) : List PyData := enumFrom 0 ds
theorem enumFrom_length : ∀ (ds : List PyData) (k : Nat), (enumFrom k ds).length = ds.length
  | [], _ => rfl
  | _ :: ds, k => by show (enumFrom (k + 1) ds).length + 1 = ds.length + 1; rw [enumFrom_length ds]
theorem enumFrom_get : ∀ (ds : List PyData) (k i : Nat), (enumFrom k ds)[i]? = (ds[i]?).map fun d => .tuple [.int ((k + i : Nat) : Int), d]
  | [], _, i => by simp [enumFrom]
  | d :: ds, k, 0 => rfl
  | d :: ds, k, i + 1 => by
    show (enumFrom (k + 1) ds)[i]? = (ds[i]?).map _
    rw [enumFrom_get ds (k + 1) i]
    have : k + 1 + i = k + (i + 1) := by omega
    rw [this]
theorem enumD_get (ds : List PyData) (i : Nat) : (enumD ds)[i]? = (ds[i]?).map fun d => .tuple [.int (i : Nat), d] := by
  unfold enumD
  rw [enumFrom_get, Nat.zero_add]
theorem wk_enumL {K : PySem.W.Frag} {O : Addr → Prop} {H : Hp} {a : Addr} {vs : List V} {ds : List PyData} (h : H a = some (.lst vs)) (n : ¬ O a) (d : DvL O H vs ds) : Wk O H (Ite K a) (enumD ds) := by
  intro O2 H2 L al i
  have e := L.h a _ h n
  have d2 := d.later L
  refine ⟨fun x ex => ?_, fun hl => ⟨vs, sq_of e, by rw [d.length]; unfold enumD at hl; rw [enumFrom_length] at hl; exact Nat.le_of_eq hl⟩⟩
  rw [enumD_get, Option.map_eq_some_iff] at ex
  obtain ⟨y, ey, rfl⟩ := ex
  obtain ⟨v, e1, e2⟩ := d2.get ey
  refine ⟨⟨vs, v, sq_of e, e1⟩, ?_⟩
  rintro z H3 ⟨T, x, rfl, hT, rfl, hx⟩
  have := hx vs (sq_of e)
  rw [e1] at this
  cases this
  exact ⟨same_upd' hT, Dv.mkT upd_same (fun q => al T q hT) (.cons (.int _) (.cons (Dv.later (later_new hT) e2) .nil))⟩
theorem wk_enumT {K : PySem.W.Frag} {O : Addr → Prop} {H : Hp} {a : Addr} {vs : List V} {ds : List PyData} (h : H a = some (.tup vs)) (n : ¬ O a) (d : DvL O H vs ds) : Wk O H (ItT K a) (enumD ds) := by
  intro O2 H2 L al i
  have e := L.h a _ h n
  have d2 := d.later L
  refine ⟨fun x ex => ?_, fun hl => ⟨vs, st_of e, by rw [d.length]; unfold enumD at hl; rw [enumFrom_length] at hl; exact hl⟩⟩
  rw [enumD_get, Option.map_eq_some_iff] at ex
  obtain ⟨y, ey, rfl⟩ := ex
  obtain ⟨v, e1, e2⟩ := d2.get ey
  refine ⟨⟨vs, v, st_of e, e1⟩, ?_⟩
  rintro z H3 ⟨T, x, rfl, hT, rfl, hx⟩
  have := hx vs (st_of e)
  rw [e1] at this
  cases this
  exact ⟨same_upd' hT, Dv.mkT upd_same (fun q => al T q hT) (.cons (.int _) (.cons (Dv.later (later_new hT) e2) .nil))⟩
def iEnL (t : TD) : TId := fun E Q => t E fun d n => match d with | .list ds => Q (enumD ds) n | _ => False
def iEnT (t : TD) : TId := fun E Q => t E fun d n => match d with | .tuple ds => Q (enumD ds) n | _ => False
theorem j_enumL {e : Expr} {t : TD} {p pos tpos : Pos} {elts : List Expr} {kk : Nat} (h : PD X G e t) (hm : X.mg "enumerate" = none) (hg : Gl X "enumerate" := by rfl) (hs : starEach [e] X.env = [(false, eval e X.env)] := by rfl) (hs' : starEach [e] X.env = (false, eval e X.env) :: starEach [] X.env := by rfl) :
    PJ X G (.Tuple elts kk tpos) (.Call (.Name "enumerate" p) [e] [] pos) (iEnL t) := PI.wk (pi_enum hg hm (pa_cons h pa_nil hs') hs) fun σ H R ⟨O, E, Qd, r, im, z⟩ => by
  refine ⟨O, E, _, r, ?_, z⟩
  rintro d n v H1 k1 i1 rv q1
  split at q1
  · obtain ⟨a, vs, rfl, h1, h2, h3⟩ := Dv.unL rv
    exact ⟨a, vs, rfl, sq_of h1, im _ n _ H1 k1 i1 (wk_enumL h1 h2 h3) q1⟩
  · exact q1.elim
theorem j_enumT {e : Expr} {t : TD} {p pos tpos : Pos} {elts : List Expr} {kk : Nat} (h : PD X G e t) (hm : X.mg "enumerate" = none) (hg : Gl X "enumerate" := by rfl) (hs : starEach [e] X.env = [(false, eval e X.env)] := by rfl) (hs' : starEach [e] X.env = (false, eval e X.env) :: starEach [] X.env := by rfl) :
    PJ X G (.Tuple elts kk tpos) (.Call (.Name "enumerate" p) [e] [] pos) (iEnT t) := PI.wk (pi_enumT hg hm (pa_cons h pa_nil hs') hs) fun σ H R ⟨O, E, Qd, r, im, z⟩ => by
  refine ⟨O, E, _, r, ?_, z⟩
  rintro d n v H1 k1 i1 rv q1
  split at q1
  · obtain ⟨a, vs, rfl, h1, h2, h3⟩ := Dv.unT rv
    exact ⟨a, vs, rfl, st_of h1, im _ n _ H1 k1 i1 (wk_enumT h1 h2 h3) q1⟩
  · exact q1.elim
end
end Dl
/-! Defs that raise own errors, read over data. -/
namespace Dl
open PySem PySem.Spec PyProof.Rows L2 Gd
abbrev Fs := List (Str × PyData)
/-- what the own dict of an error holds -/
def XdR (O : Addr → Prop) (H : Hp) (d : Option Addr) (fs : Fs) : Prop := match fs with
  | [] => d = none
  | [(f, x)] => ∃ dd v, d = some dd ∧ H dd = some (.xd [(f, v)]) ∧ ¬ O dd ∧ Dv O H v x
  | _ => False
theorem XdR.less {O O' : Addr → Prop} {H : Hp} {d : Option Addr} {fs : Fs} (k : ∀ b, O' b → O b) (h : XdR O H d fs) : XdR O' H d fs := by
  match fs, h with
  | [], h => exact h
  | [(f, x)], ⟨dd, v, e1, e2, e3, e4⟩ => exact ⟨dd, v, e1, e2, fun z => e3 (k _ z), Dv.less' k e4⟩
abbrev WeD := Addr → Fs → En → Prop
abbrev TSx := WeD → TSd
abbrev TDx := En → (PyData → Nat → Prop) → WeD → Prop
section
variable (G : Gx) (W : WX)
def LkX (O : Addr → Prop) (H : Hp) (We : WeD) : Prop := ∀ O' σ' H' E' c d fs, Later O H O' H' → Rel G O' σ' H' E' → XdR O' H' d fs → We c fs E' → W (.ref c) d σ' H'
def lowSX (t : TSx) : TS := fun D σ H => ∃ (O : Addr → Prop) (E : En) (Dd : DEnds) (We : WeD), Rel G O σ H E ∧ Lk G O H D Dd ∧ LkX G W O H We ∧ t We Dd E
def lowX (R : RR) (t : TDx) : TE := fun σ H Q => ∃ (O : Addr → Prop) (E : En) (Qd : PyData → Nat → Prop) (We : WeD), Rel G O σ H E ∧ (∀ d n v H', Kp G.F.S H H' → G.F.I n H' → R O H H' v d → Qd d n → Q v H') ∧ LkX G W O H We ∧ t E Qd We
end
theorem LkX.later {G : Gx} {W : WX} {O O1 : Addr → Prop} {H H1 : Hp} {We : WeD} (k : LkX G W O H We) (L : Later O H O1 H1) : LkX G W O1 H1 We :=
  fun O' σ' H' E' c d fs l => k O' σ' H' E' c d fs (L.trans l)
section
variable {X : Cx} {G : Gx} {W : WX}
abbrev PZX (X : Cx) (G : Gx) (W : WX) (st : Stmt) (t : TSx) : Prop := PS X st (lowSX G W t)
abbrev PZXs (X : Cx) (G : Gx) (W : WX) (st : List Stmt) (t : TSx) : Prop := PSs X st (lowSX G W t)
abbrev PXX (X : Cx) (G : Gx) (W : WX) (e : Expr) (t : TDx) : Prop := PE X e (lowX G W RD t)
def xPl (t : TSd) : TSx := fun _ => t
theorem zx_of {st : Stmt} {t : TSd} (h : PZ X G st t) : PZX X G W st (xPl t) := PS.wk h fun D σ H ⟨O, E, Dd, We, r, k, _, z⟩ => ⟨O, E, Dd, r, k, z⟩
theorem zxs_of {st : List Stmt} {t : TSd} (h : PZs X G st t) : PZXs X G W st (xPl t) := PSs.wk h fun D σ H ⟨O, E, Dd, We, r, k, _, z⟩ => ⟨O, E, Dd, r, k, z⟩
theorem zxs_nox {st : List Stmt} {t : TSd} (h : PZs X.nox G st t) : PZXs X G W st (xPl t) := zxs_of h.nox
def xSeq (t u : TSx) : TSx := fun We D E => t We { D with nx := u We D } E
theorem zxs_cons {st : Stmt} {rest : List Stmt} {t u : TSx} (h1 : PZX X G W st t) (h2 : PZXs X G W rest u) : PZXs X G W (st :: rest) (xSeq t u) := PSs.wk (pss_cons h1 h2) fun D σ H ⟨O, E, Dd, We, r, k, kx, z⟩ =>
  ⟨O, E, { Dd with nx := u We Dd }, We, r, ⟨fun O' σ' H' E' l r' q => ⟨O', E', Dd, We, r', k.later l, kx.later l, q⟩, k.rt, k.bk, k.ct⟩, kx, z⟩
theorem zxs_one {st : Stmt} {t : TSx} (h1 : PZX X G W st t) : PZXs X G W [st] t := pss_one h1
def xIf (tt : TDt) (t u : TSx) : TSx := fun We D E => tt E fun b n => if b = true then t We D ⟨E.ρ, n⟩ else u We D ⟨E.ρ, n⟩
theorem zx_if {c : Expr} {a b : List Stmt} {tt : TDt} {t u : TSx} {pos : Pos} (hc : PQ X G c tt) (ha : PZXs X G W a t) (hb : PZXs X G W b u) : PZX X G W (.If c a b pos) (xIf tt t u) := PS.wk (ps_if hc ha hb) fun D σ H ⟨O, E, Dd, We, r, k, kx, z⟩ => by
  refine ⟨O, E, _, r, ?_, z⟩
  rintro b n H1 k1 i1 q1
  have r1 := r.step k1 i1
  cases b with
  | true =>
    refine iteT ?_
    rw [if_pos rfl] at q1
    exact ⟨O, _, Dd, We, r1, k.later (r.lt k1), kx.later (r.lt k1), q1⟩
  | false =>
    refine iteF ?_
    rw [if_neg (by decide)] at q1
    exact ⟨O, _, Dd, We, r1, k.later (r.lt k1), kx.later (r.lt k1), q1⟩
def xFrz (i : Nat) (t : TSx) : TSx := fun We D E => match E.ρ[i]? with | some (.own ds) => t We D ⟨E.ρ.set i (.dat (.list ds)), E.n⟩ | _ => t We D E
theorem zx_frz (i : Nat) {st : Stmt} {t : TSx} (h : PZX X G W st t) : PZX X G W st (xFrz i t) := PS.wk h fun D σ H ⟨O, E, Dd, We, r, k, kx, z⟩ => by
  unfold xFrz at z
  split at z
  · rename_i ds e
    obtain ⟨a, vs, O', _, _, _, _, y5, y6, _⟩ := r.freeze e
    exact ⟨O', _, Dd, We, y5, k.later y6, kx.later y6, z⟩
  · exact ⟨O, E, Dd, We, r, k, kx, z⟩
def xFor (it : TId) (tg : Tg) (tb : TSx) : TSx := fun We D E => it E fun ds n => dForL tg (tb We) D ds ⟨E.ρ, n⟩
theorem zx_for {target iter : Expr} {body : List Stmt} {it : TId} {tg : Tg} {tb : TSx} {pos : Pos} (hp : PassesOwn (model X.prog X.w) X.A X.env X.xe) (hc : X.calm = true) (hi : PJ X G target iter it) (hg : PG X target (tg.g X.K)) (hb : PZXs X G W body tb) (hs : ∀ x, foldedSetIterable iter X.env x = pure x := by intro _; rfl) :
    PZX X G W (.For target iter body [] pos) (xFor it tg tb) := PS.wk (ps_for hp hc hi hg hb hs) fun D σ H ⟨O, E, Dd, We, r, k, kx, z⟩ => by
  refine ⟨O, E, _, r, ?_, z⟩
  rintro ds n J H1 k1 i1 wk q1
  replace q1 := q1.h
  have r1 := r.step k1 i1
  have L1 := r.lt k1
  refine ⟨fun i m σ2 H2 => m = ds.length - i ∧ i ≤ ds.length ∧ ∃ O2 E2, Later O H1 O2 H2 ∧ Rel G O2 σ2 H2 E2 ∧ dForL0 tg (tb We) Dd (ds.drop i) E2, ⟨ds.length, rfl, Nat.zero_le _, O, _, Later.refl _ _, r1, by simpa using q1⟩, ?_⟩
  rintro i m σ2 H2 ⟨rfl, hle, O2, E2, L2, r2, q2⟩
  by_cases hl : i < ds.length
  · obtain ⟨g1, g2⟩ := (wk O2 H2 L2 r2.al i).1 ds[i] (List.getElem?_eq_getElem hl)
    rw [List.drop_eq_getElem_cons hl] at q2
    obtain ⟨ρ, e, q3⟩ := opt_el q2
    refine .inr ⟨g1, fun σ' H' => ∃ O3 E3, Later O H1 O3 H' ∧ Rel G O3 σ' H' E3 ∧ dForL0 tg (tb We) Dd (ds.drop (i + 1)) E3, fun σ' H' q => ⟨ds.length - (i + 1), by omega, rfl, by omega, q⟩, fun x H3 y => ?_⟩
    obtain ⟨s3, dx⟩ := g2 x H3 y
    obtain ⟨k3, i3⟩ := r2.fin s3
    have r3 := r2.step k3 i3
    have L3 := L2.trans (r2.lt k3)
    refine Tg.ok tg r3 dx e fun σ' r' _ => ⟨O2, _, { Dd with nx := dForL0 tg (tb We) Dd (ds.drop (i + 1)), ct := dForL0 tg (tb We) Dd (ds.drop (i + 1)), bk := Dd.nx }, We, r', ⟨fun O' σ' H' E' l rr q => ⟨O', E', L3.trans l, rr, q⟩, k.rt, fun O' σ' H' E' l rr q => k.nx O' σ' H' E' ((L1.trans L3).trans l) rr q, fun O' σ' H' E' l rr q => ⟨O', E', L3.trans l, rr, q⟩⟩, kx.later (L1.trans L3), q3⟩
  · refine .inl ⟨(wk O2 H2 L2 r2.al i).2 (by omega), ?_⟩
    rw [List.drop_eq_nil_of_le (by omega)] at q2
    exact k.nx O2 σ2 H2 E2 (L1.trans L2) r2 q2
/-! ### statements about a call that may raise -/
def xDrop (t : TDx) : TSx := fun We D E => t E (fun _ n => D.nx ⟨E.ρ, n⟩) We
theorem zx_drop {e : Expr} {t : TDx} {pos : Pos} (he : PXX X G W e t) (hs : swapsWith e none pos.line X.env = pure false := by rfl) : PZX X G W (.Expr e pos) (xDrop t) := PS.wk (ps_expr he hs) fun D σ H ⟨O, E, Dd, We, r, k, kx, z⟩ => by
  refine ⟨O, E, _, We, r, ?_, kx, z⟩
  rintro d n v H1 k1 i1 rv q1
  exact k.nx O σ H1 _ (r.lt k1) (r.step k1 i1) q1
def xRet (t : TDx) : TSx := fun We D E => t E D.rt We
theorem zx_ret {e : Expr} {t : TDx} {pos : Pos} (he : PXX X G W e t) : PZX X G W (.Return (some e) pos) (xRet t) := PS.wk (ps_ret he) fun D σ H ⟨O, E, Dd, We, r, k, kx, z⟩ => by
  refine ⟨O, E, _, We, r, ?_, kx, z⟩
  rintro d n v H1 k1 i1 rv q1
  exact k.rt v H1 d n (r.step k1 i1).kp i1 (Dv.less' r.bo rv) q1
def xSet (i : Nat) (t : TDx) : TSx := fun We D E => t E (fun d n => D.nx ⟨E.ρ.set i (.dat d), n⟩) We
theorem zx_set {i : Nat} {x : Str} {e : Expr} {t : TDx} {pos pos' : Pos} (hN : X.N.Nodup) (hi : X.N[i]? = some x) (hx : Loc X.env.scope x) (he : PXX X G W e t) (hs : swapsWith e (some (.Name x pos')) pos.line X.env = pure false := by rfl) (hf : X.fn x = true ∨ X.env.scope.names.lookup x = some .local := by first | exact .inl rfl | exact .inr rfl | assumption) :
    PZX X G W (.Assign [.Name x pos'] e pos) (xSet i t) := PS.wk (ps_set hN hi hx he hs hf) fun D σ H ⟨O, E, Dd, We, r, k, kx, z⟩ => by
  refine ⟨O, E, _, We, r, ?_, kx, z⟩
  rintro d n v H1 k1 i1 rv q1
  exact k.nx O _ H1 _ (r.lt k1) ((r.step k1 i1).set rv) q1
/-! ### the promise of a def that may raise -/
abbrev ConX := Fr → List Ar → Nat → (PyData → Nat → Prop) → (Addr → Fs → Nat → Prop) → Prop
def spDX (C : ConX) (m : Nat) : Sp := fun vs H Q E => vs.length = m ∧ ∃ (F : Fr) (B : Addr → Prop) (as : List Ar) (n : Nat) (Qd : PyData → Nat → Prop) (Qe : Addr → Fs → Nat → Prop), (∀ x, F.S x → B x) ∧ (∀ x, B x → H x ≠ none) ∧ Paired (ArR B H) vs as ∧ F.I n H ∧
  (∀ d n v H', Kp F.S H H' → F.I n H' → Dv B H' v d → Qd d n → Q v H') ∧ (∀ c fs n d H', Kp F.S H H' → F.I n H' → XdR B H' d fs → Qe c fs n → E (.ref c) d H') ∧ C F as n Qd Qe
def dCallX (F : Fr) (C : ConX) (m : Nat) (ts : TDa) : TDx := fun E Q We => ts E fun as n => as.length = m ∧ C F as n Q (fun c fs n' => We c fs ⟨E.ρ, n'⟩)
theorem px_call {k m : Nat} {f : Addr} {fd : FuncData} {ps : List Str} {C : ConX} {x : Str} {p pos : Pos} {e : Expr} {es : List Expr} {ts : TDa} (tk : Takes X W) (F : FnOk X.prog X.w X.K X.mg X.base (L2.CX X.prog X.w) k f fd ps (spDX C m)) (hr : Room k X.A) (hm : X.mg x = some (.ref f)) (hk : PySem.W.keepIn X.K (.ref f) = true) (hb : Binds X.K fd ps [])
    (ha : PR X G (e :: es) ts) (hg : Gl X x := by rfl) (hdb : (x == ("__debug__" : Str)) = false := by decide) (he : starEach (e :: es) X.env = (false, eval e X.env) :: starEach es X.env := by rfl) (hpl : (backTo pos (starEach es X.env)).any (·.1) = false := by rfl) :
    PXX X G W (.Call (.Name x p) (e :: es) [] pos) (dCallX G.F C m ts) := PE.wk (pe_callS F hr hg hm hk hb (fun σ => passAt tk σ) ha hdb he hpl) fun σ H Q ⟨O, E, Qd, We, r, im, kx, z⟩ => by
  refine ⟨O, E, _, r, ?_, z⟩
  rintro as n vs H1 k1 i1 rv ⟨q0, q1⟩
  have r1 := r.step k1 i1
  refine ⟨rv.length.trans q0, G.F, O, as, n, _, _, r.sO, r1.al, rv, i1, fun d n' v H' k2 i2 dv q2 => im d n' v H' (k1.trans k2) i2 dv q2, fun c fs n' d H' k2 i2 xd q2 => ?_, q1⟩
  exact kx O σ H' ⟨E.ρ, n'⟩ c d fs ((r.lt k1).trans (r1.lt k2)) (r1.step k2 i2) xd q2
end
section
variable {P : Program} {w : World} {K : PySem.W.Frag} {mg : Str → Option Value} {base : Heap}
theorem okDX {x qual : Str} {st : Stmt} {f : Addr} {fd : FuncData} {N ps : List Str} {k : Nat} {C : ConX} {t : Gx → TSx} (F : Fun K x qual st f fd) (S : FnScope N ps (defScope st))
    (der : ∀ (G : Gx) (cdv : Value) (A : Around) (fr : List Env) (s : Shared) (H : Hp) (E : XK) (W : WX), Room k (A.deeper (envOfC qual (defScope st) s.heap.objs.size f cdv)) → Takes (cxOf (L2.CX P w) P w K mg base N qual (defScope st) f cdv A fr s H E) W → PZXs (cxOf (L2.CX P w) P w K mg base N qual (defScope st) f cdv A fr s H E) G W (defBody st) (t G))
    (sem : ∀ (G : Gx) (as : List Ar) (n : Nat) (Qd : PyData → Nat → Prop) (Qe : Addr → Fs → Nat → Prop), as.length = ps.length → C G.F as n Qd Qe → t G (fun c fs E => Qe c fs E.n) { nx := fun E => Qd .none E.n, rt := Qd } ⟨as.map Ar.sl ++ List.replicate (N.length - ps.length) Sl.no, n⟩) :
    FnOk P w K mg base (L2.CX P w) (k + 1) f fd ps (spDX C ps.length) := by
  refine F.okX S (fun vs H Q E h => h.1) (fun cdv A fr s H vs Q E hr h => ?_)
  obtain ⟨hl, F', B, as, n, Qd, Qe, sb, hb, hv, i, im, ie, c⟩ := h
  refine ⟨_, der ⟨F', B, H, sb, hb⟩ cdv A fr s H E (fun cls d _ H => E cls d H) hr (takes_of rfl rfl rfl rfl), B, _, _, _, rel_start (G := ⟨F', B, H, sb, hb⟩) hv rfl i, ?_, ?_, by have := sem ⟨F', B, H, sb, hb⟩ as n Qd Qe (hv.length.symm.trans hl) c; rw [← hl] at this; exact this⟩
  · exact ⟨fun O' σ' H' E' l r q => im .none E'.n .non H' r.kp r.str .non q, fun v H' d n k i dv q => im d n v H' k i dv q, fun _ _ _ _ _ _ q => q.elim, fun _ _ _ _ _ _ q => q.elim⟩
  · exact fun O' σ' H' E' c d fs l r xd q => ie c fs E'.n d H' r.kp r.str (xd.less r.bo) q
structure CdX (P : Program) (w : World) (K : PySem.W.Frag) (mg : Str → Option Value) (base : Heap) (k : Nat) (x : Str) (f : Addr) (fd : FuncData) (ps : List Str) (C : ConX) : Prop where
  G : FnOk P w K mg base (L2.CX P w) k f fd ps (spDX C ps.length)
  kp : PySem.W.keepIn K (.ref f) = true
  b : Binds K fd ps []
  g : mg x = some (.ref f)
theorem CdX.mono {j k : Nat} {x : Str} {f : Addr} {fd : FuncData} {ps : List Str} {C : ConX} (c : CdX P w K mg base j x f fd ps C) (h : j ≤ k) : CdX P w K mg base k x f fd ps C := ⟨c.G.mono h, c.kp, c.b, c.g⟩
end
/-! ### raise -/
section
variable {X : Cx} {G : Gx} {W : WX}
def xRaise (C : Addr) (f : Str) (ts : TDa) : TSx := fun We _ E => ts E fun as n => ∃ x, as = [.d x] ∧ We C [(f, x)] ⟨E.ρ, n⟩
theorem zx_raise1 {st : Stmt} {C : Addr} {f : Str} {ts : TDa} (h : PS X st (fun _ σ H => lowA G ts σ H fun vs H1 => ∃ v, vs = [v] ∧ ∀ d, H1 d = none → W (.ref C) (some d) σ (upd H1 d (.xd [(f, v)])))) : PZX X G W st (xRaise C f ts) := PS.wk h fun D σ H ⟨O, E, Dd, We, r, k, kx, z⟩ => by
  refine ⟨O, E, _, r, ?_, z⟩
  rintro as n vs H1 k1 i1 rv ⟨x, rfl, q⟩
  have r1 := r.step k1 i1
  cases rv with
  | cons h1 h2 =>
    cases h2
    refine ⟨_, rfl, fun d hd => ?_⟩
    obtain ⟨k2, i2⟩ := r1.fin (same_upd' (o := .xd [(f, _)]) hd)
    refine kx O σ _ ⟨E.ρ, n⟩ C (some d) [(f, x)] ((r.lt k1).trans (r1.lt k2)) (r1.step k2 i2) ⟨d, _, rfl, upd_same, fun y => r1.al d y hd, Dv.later (later_new hd) h1⟩ q
def xRaise0 (C : Addr) : TSx := fun We _ E => We C [] E
theorem zx_raise0 {st : Stmt} {C : Addr} (h : PS X st (fun _ σ H => W (.ref C) none σ H)) : PZX X G W st (xRaise0 C) := PS.wk h fun D σ H ⟨O, E, Dd, We, r, k, kx, z⟩ => kx O σ H E C none [] (Later.refl O H) r rfl z
end
/-! ### a def as an argument -/
section
variable {X : Cx} {G : Gx}
def aGl (v : V) (ts : TDa) : TDa := fun E Q => ts E fun as m => Q (.c v :: as) m
theorem pr_gl {v : V} {u : Value} {x : Str} {pos : Pos} {es : List Expr} {ts : TDa} (hg : Gl X x) (hm : X.mg x = some u) (rv : RelV v u) (hs : PR X G es ts) (hd : (x == ("__debug__" : Str)) = false := by decide) (hst : starEach (.Name x pos :: es) X.env = (false, eval (.Name x pos) X.env) :: starEach es X.env := by rfl) : PR X G (.Name x pos :: es) (aGl v ts) :=
  PA.wk (pa_cons (pe_glob hg hm rv hd) hs hst) fun σ H Q ⟨O, E, Qd, r, im, z⟩ => by
    refine ⟨O, E, _, r, ?_, z⟩
    rintro as n vs H1 k1 i1 rs q1
    exact im _ n _ H1 k1 i1 (Paired.cons (show ArR O H1 v (.c v) from rfl) rs) q1
end
end Dl
/-! dicts displayed; any, all; reversed, zip; pop, extend -/
namespace Dl
open PySem PySem.Spec PyProof.Rows L2 Gd RT RZ
section
variable {X : Cx} {G : Gx}
theorem pd_dict0 {pos : Pos} : PD X G (.Dict [] [] pos) (dC (.dict [])) := PE.wk pe_dnewK fun σ H Q ⟨O, E, Qd, r, im, z⟩ => by
  intro p hp
  obtain ⟨k, i⟩ := r.fin (same_upd' (o := .dK []) hp)
  exact im _ E.n _ _ k i (.dct (kvs := []) upd_same (fun y => r.al p y hp) (fun _ h => nomatch h)) z
theorem pd_dict1 {x : Str} {i : Int} {j1 j2 : Nat} {p1 p2 pos : Pos} : PD X G (.Dict [some (.Constant (.str x) j1 p1)] [.Constant (.int i) j2 p2] pos) (dC (.dict [(.str x, .int i)])) := PE.wk (pe_disp (pps_cons pe_str pe_int pps_nil) rfl rfl (fun z => by cases z) (show 1 ≤ 15 by decide)) fun σ H Q ⟨O, E, Qd, r, im, z⟩ => by
  intro p hp
  refine ⟨upd_same, [(Sum.inr x, .int i)], rfl, (show 1 ≤ 15 by decide), ?_⟩
  have ec : upd (upd H p (.dK [])) p (.dK (mergeK [] [(Sum.inr x, .int i)])) = upd H p (.dK [(Sum.inr x, .int i)]) := by
    rw [upd_upd]
    rfl
  rw [ec]
  obtain ⟨k, i'⟩ := r.fin (same_upd' (o := .dK [(Sum.inr x, .int i)]) hp)
  exact im _ E.n _ _ k i' (.dct (kvs := [(Sum.inr x, .int i)]) upd_same (fun y => r.al p y hp) (fun q h => by
    rcases List.mem_singleton.mp h with rfl
    rfl)) z
def boolsOf : List PyData → Option (List Bool)
  | [] => some []
  | .bool b :: r => (boolsOf r).map (b :: ·)
  | _ :: _ => none
theorem boolsOf_map : ∀ bs : List Bool, boolsOf (bs.map PyData.bool) = some bs
  | [] => rfl
  | b :: r => by rw [List.map_cons, boolsOf, boolsOf_map r]; rfl
theorem bools_dv {O : Addr → Prop} {H : Hp} : ∀ {vs : List V} {ds : List PyData} {bs : List Bool}, DvL O H vs ds → boolsOf ds = some bs → vs = bs.map V.bl
  | _, _, bs, .nil, e => by cases e; rfl
  | v :: vs, d :: ds, bs, .cons r t, e => by
    cases d with
    | bool b =>
      rw [boolsOf, Option.map_eq_some_iff] at e
      obtain ⟨cs, e1, rfl⟩ := e
      cases r
      rw [bools_dv t e1]
      rfl
    | _ => cases e
def gBools (f : List Bool → Bool) : PyData → Option PyData
  | .list ds => (boolsOf ds).map fun bs => .bool (f bs)
  | _ => none
theorem gBools_of {f : List Bool → Bool} {bs : List Bool} : gBools f (.list (bs.map PyData.bool)) = some (.bool (f bs)) := by
  show (boolsOf (bs.map PyData.bool)).map (fun bs => PyData.bool (f bs)) = _
  rw [boolsOf_map]
  rfl
theorem gBools_el {f : List Bool → Bool} {d z : PyData} (h : gBools f d = some z) : ∃ ds bs, d = .list ds ∧ boolsOf ds = some bs ∧ z = .bool (f bs) := by
  unfold gBools at h
  split at h
  · rw [Option.map_eq_some_iff] at h
    obtain ⟨bs, e, rfl⟩ := h
    exact ⟨_, bs, rfl, e, rfl⟩
  · cases h
theorem pd_any {a : Expr} {ta : TD} {p pos : Pos} (hc : X.calm = true) (ha : PB X G a ta) (hm : X.mg "any" = none) (hg : Gl X "any" := by rfl) (hs : starEach [a] X.env = (false, eval a X.env) :: starEach [] X.env := by rfl) : PD X G (.Call (.Name "any" p) [a] [] pos) (dUn (gBools fun bs => bs.any id) ta) :=
  PE.wk (pe_callB (cr_any hc) hg hm (by decide +kernel) (pa_cons ha pa_nil hs) (he := hs)) (cl1 (by
    intro O H x dx z Q al bx e q
    obtain ⟨ds, bs, rfl, e1, rfl⟩ := gBools_el e
    obtain ⟨a, vs, rfl, h1, d1⟩ := bx.lst
    have := bools_dv d1 e1
    subst this
    exact ⟨a, bs, rfl, sq_of h1, nw_now q (.bl _)⟩))
theorem pd_all {a : Expr} {ta : TD} {p pos : Pos} (hc : X.calm = true) (ha : PB X G a ta) (hm : X.mg "all" = none) (hg : Gl X "all" := by rfl) (hs : starEach [a] X.env = (false, eval a X.env) :: starEach [] X.env := by rfl) : PD X G (.Call (.Name "all" p) [a] [] pos) (dUn (gBools fun bs => bs.all id) ta) :=
  PE.wk (pe_callB (cr_all hc) hg hm (by decide +kernel) (pa_cons ha pa_nil hs) (he := hs)) (cl1 (by
    intro O H x dx z Q al bx e q
    obtain ⟨ds, bs, rfl, e1, rfl⟩ := gBools_el e
    obtain ⟨a, vs, rfl, h1, d1⟩ := bx.lst
    have := bools_dv d1 e1
    subst this
    exact ⟨a, bs, rfl, sq_of h1, nw_now q (.bl _)⟩))
/-! ### reversed -/
theorem rev_get {α : Type} {l : List α} {i : Nat} {x : α} (h : l.reverse[i]? = some x) : i < l.length ∧ l[l.length - 1 - i]? = some x := by
  have hi : i < l.length := by
    have := (List.getElem?_eq_some_iff.mp h).1
    simpa using this
  rw [List.getElem?_reverse hi] at h
  exact ⟨hi, h⟩
theorem wk_revL {K : PySem.W.Frag} {O : Addr → Prop} {H : Hp} {a : Addr} {vs : List V} {ds : List PyData} (h : H a = some (.lst vs)) (n : ¬ O a) (d : DvL O H vs ds) : Wk O H (Itv K a vs.length) ds.reverse := by
  intro O2 H2 L al i
  have e := L.h a _ h n
  have d2 := d.later L
  have l := d.length
  refine ⟨fun x ex => ?_, fun hl => by show vs.length ≤ i; rw [List.length_reverse] at hl; omega⟩
  obtain ⟨hi, ex⟩ := rev_get ex
  rw [← l] at ex hi
  obtain ⟨v, e1, e2⟩ := d2.get ex
  refine ⟨⟨hi, vs, v, sq_of e, e1⟩, ?_⟩
  rintro y H3 ⟨rfl, hy⟩
  have := hy vs (sq_of e)
  rw [e1] at this
  cases this
  exact ⟨fun _ _ e => e, e2⟩
theorem wk_revT {K : PySem.W.Frag} {O : Addr → Prop} {H : Hp} {a : Addr} {vs : List V} {ds : List PyData} (h : H a = some (.tup vs)) (n : ¬ O a) (d : DvL O H vs ds) : Wk O H (ItvT K a vs.length) ds.reverse := by
  intro O2 H2 L al i
  have e := L.h a _ h n
  have d2 := d.later L
  have l := d.length
  refine ⟨fun x ex => ?_, fun hl => by show vs.length ≤ i; rw [List.length_reverse] at hl; omega⟩
  obtain ⟨hi, ex⟩ := rev_get ex
  rw [← l] at ex hi
  obtain ⟨v, e1, e2⟩ := d2.get ex
  refine ⟨⟨hi, vs, v, st_of e, e1⟩, ?_⟩
  rintro y H3 ⟨rfl, hy⟩
  have := hy vs (st_of e)
  rw [e1] at this
  cases this
  exact ⟨fun _ _ e => e, e2⟩
def iRev (t : TD) : TId := fun E Q => t E fun d n => opt (items d) fun ds => Q ds.reverse n
theorem j_rev {tg e : Expr} {t : TD} {p pos : Pos} (h : PD X G e t) (hm : X.mg "reversed" = none) (hg : Gl X "reversed" := by rfl) (hs : starEach [e] X.env = (false, eval e X.env) :: starEach [] X.env := by rfl) :
    PJ X G tg (.Call (.Name "reversed" p) [e] [] pos) (iRev t) := PI.wk (pi_revA hg hm h hs) fun σ H R ⟨O, E, Qd, r, im, z⟩ => by
  refine ⟨O, E, _, r, ?_, z⟩
  rintro d n v H1 k1 i1 rv q1
  obtain ⟨ds, e, q⟩ := opt_el q1
  cases d with
  | list xs =>
    cases e
    obtain ⟨a, vs, rfl, h1, h2, h3⟩ := Dv.unL rv
    exact ⟨a, vs, rfl, .inl ⟨sq_of h1, im _ n _ H1 k1 i1 (wk_revL h1 h2 h3) q⟩⟩
  | tuple xs =>
    cases e
    obtain ⟨a, vs, rfl, h1, h2, h3⟩ := Dv.unT rv
    exact ⟨a, vs, rfl, .inr ⟨st_of h1, im _ n _ H1 k1 i1 (wk_revT h1 h2 h3) q⟩⟩
  | _ => cases e
/-! ### zip of two tuples, of two lists -/
def zipD : List PyData → List PyData → List PyData
  | x :: xs, y :: ys => .tuple [x, y] :: zipD xs ys
  | _, _ => []
theorem zipD_length : ∀ (xs ys : List PyData), (zipD xs ys).length = min xs.length ys.length
  | [], ys => by simp [zipD]
  | _ :: _, [] => by simp [zipD]
  | x :: xs, y :: ys => by simp only [zipD, List.length_cons, zipD_length xs ys]; omega
theorem zipD_get : ∀ (xs ys : List PyData) (i : Nat) (d : PyData), (zipD xs ys)[i]? = some d → ∃ x y, xs[i]? = some x ∧ ys[i]? = some y ∧ d = .tuple [x, y]
  | [], ys, i, d, h => by simp [zipD] at h
  | _ :: _, [], i, d, h => by simp [zipD] at h
  | x :: xs, y :: ys, 0, d, h => by
    simp only [zipD, List.getElem?_cons_zero, Option.some.injEq] at h
    exact ⟨x, y, rfl, rfl, h.symm⟩
  | x :: xs, y :: ys, i + 1, d, h => by
    simp only [zipD, List.getElem?_cons_succ] at h
    obtain ⟨a, b, h1, h2, h3⟩ := zipD_get xs ys i d h
    exact ⟨a, b, by simpa using h1, by simpa using h2, h3⟩
theorem wk_zipL {K : PySem.W.Frag} {O : Addr → Prop} {H : Hp} {a b : Addr} {vs us : List V} {ds es : List PyData} (h : H a = some (.lst vs)) (n : ¬ O a) (d : DvL O H vs ds) (h' : H b = some (.lst us)) (n' : ¬ O b) (d' : DvL O H us es) : Wk O H (Itz K a b) (zipD ds es) := by
  intro O2 H2 L al i
  have e := L.h a _ h n
  have e' := L.h b _ h' n'
  have d2 := d.later L
  have d2' := d'.later L
  have l := d.length
  have l' := d'.length
  refine ⟨fun x ex => ?_, fun hl => ⟨vs, us, sq_of e, sq_of e', by rw [zipD_length] at hl; omega⟩⟩
  obtain ⟨x, y, ex', ey, rfl⟩ := zipD_get ds es i _ ex
  obtain ⟨v, e1, e2⟩ := d2.get ex'
  obtain ⟨u, f1, f2⟩ := d2'.get ey
  refine ⟨⟨vs, us, v, u, sq_of e, sq_of e', e1, f1⟩, ?_⟩
  rintro z H3 ⟨T, x, y, rfl, hT, rfl, hx, hy⟩
  have := hx vs (sq_of e)
  rw [e1] at this
  cases this
  have := hy us (sq_of e')
  rw [f1] at this
  cases this
  exact ⟨same_upd' hT, Dv.mkT upd_same (fun q => al T q hT) (.cons (Dv.later (later_new hT) e2) (.cons (Dv.later (later_new hT) f2) .nil))⟩
theorem wk_zipT {K : PySem.W.Frag} {O : Addr → Prop} {H : Hp} {a b : Addr} {vs us : List V} {ds es : List PyData} (h : H a = some (.tup vs)) (n : ¬ O a) (d : DvL O H vs ds) (h' : H b = some (.tup us)) (n' : ¬ O b) (d' : DvL O H us es) : Wk O H (ItzT K a b) (zipD ds es) := by
  intro O2 H2 L al i
  have e := L.h a _ h n
  have e' := L.h b _ h' n'
  have d2 := d.later L
  have d2' := d'.later L
  have l := d.length
  have l' := d'.length
  refine ⟨fun x ex => ?_, fun hl => ⟨vs, us, st_of e, st_of e', by rw [zipD_length] at hl; omega⟩⟩
  obtain ⟨x, y, ex', ey, rfl⟩ := zipD_get ds es i _ ex
  obtain ⟨v, e1, e2⟩ := d2.get ex'
  obtain ⟨u, f1, f2⟩ := d2'.get ey
  refine ⟨⟨vs, us, v, u, st_of e, st_of e', e1, f1⟩, ?_⟩
  rintro z H3 ⟨T, x, y, rfl, hT, rfl, hx, hy⟩
  have := hx vs (st_of e)
  rw [e1] at this
  cases this
  have := hy us (st_of e')
  rw [f1] at this
  cases this
  exact ⟨same_upd' hT, Dv.mkT upd_same (fun q => al T q hT) (.cons (Dv.later (later_new hT) e2) (.cons (Dv.later (later_new hT) f2) .nil))⟩
def iZip (ts : TDa) : TId := fun E Q => ts E fun as n => match as with
  | [.d (.list xs), .d (.list ys)] => Q (zipD xs ys) n
  | [.d (.tuple xs), .d (.tuple ys)] => Q (zipD xs ys) n
  | _ => False
theorem j_zip {e e2 : Expr} {ts : TDa} {p pos tpos : Pos} {elts : List Expr} {kk : Nat} (ha : PR X G [e, e2] ts) (hm : X.mg "zip" = none) (hg : Gl X "zip" := by rfl) (hs : starEach [e, e2] X.env = (false, eval e X.env) :: starEach [e2] X.env := by rfl) (hpl : (backTo pos (starEach [e2] X.env)).any (·.1) = false := by rfl) :
    PJ X G (.Tuple elts kk tpos) (.Call (.Name "zip" p) [e, e2] [] pos) (iZip ts) := PI.wk (pi_zipA hg hm ha hs hpl) fun σ H R ⟨O, E, Qd, r, im, z⟩ => by
  refine ⟨O, E, _, r, ?_, z⟩
  rintro as n vs H1 k1 i1 rv q1
  split at q1
  · rename_i xs ys
    cases rv with
    | cons h1 t1 =>
      cases t1 with
      | cons h2 t2 =>
        cases t2
        obtain ⟨a, vs, rfl, a1, a2, a3⟩ := Dv.unL h1
        obtain ⟨b, us, rfl, b1, b2, b3⟩ := Dv.unL h2
        exact ⟨a, b, vs, us, rfl, .inl ⟨sq_of a1, sq_of b1, im _ n _ H1 k1 i1 (wk_zipL a1 a2 a3 b1 b2 b3) q1⟩⟩
  · rename_i xs ys
    cases rv with
    | cons h1 t1 =>
      cases t1 with
      | cons h2 t2 =>
        cases t2
        obtain ⟨a, vs, rfl, a1, a2, a3⟩ := Dv.unT h1
        obtain ⟨b, us, rfl, b1, b2, b3⟩ := Dv.unT h2
        exact ⟨a, b, vs, us, rfl, .inr ⟨st_of a1, st_of b1, im _ n _ H1 k1 i1 (wk_zipT a1 a2 a3 b1 b2 b3) q1⟩⟩
  · exact q1.elim
def dRgL1 (t : TD) : TD := fun E Q => t E fun d n => match d with | .int j => decide (-(2 ^ 20) ≤ j ∧ j < 2 ^ 20) = true ∧ Q (.list (rangeD 0 j.toNat)) n | _ => False
theorem pl_listRg1 {a : Expr} {t : TD} {p p2 pos pos2 : Pos} (hc : X.calm = true) (ha : PD X G a t) (hml : X.mg "list" = none) (hm : X.mg "range" = none) (hgl : Gl X "list" := by rfl) (hg : Gl X "range" := by rfl)
    (na : starEach [a] X.env = (false, eval a X.env) :: starEach [] X.env := by rfl)
    (nc : starEach [.Call (.Name "range" p2) [a] [] pos2] X.env = (false, eval (.Call (.Name "range" p2) [a] [] pos2) X.env) :: starEach [] X.env := by rfl) :
    PL X G (.Call (.Name "list" p) [.Call (.Name "range" p2) [a] [] pos2] [] pos) (dRgL1 t) := PE.wk (pe_listRg hc hgl hml (prg_1 hg hm ha na) nc) fun σ H Q ⟨O, E, Qd, r, im, z⟩ => by
  refine ⟨O, E, _, r, ?_, z⟩
  rintro d n v H1 k1 i1 rv q1
  have r1 := r.step k1 i1
  split at q1
  · rename_i jj
    cases rv
    obtain ⟨h, q⟩ := q1
    have h' := of_decide_eq_true h
    have hdv := dvl_rg (O := O) (H := H1) 0 jj
    rw [Int.sub_zero] at hdv
    refine ⟨_, rfl, ⟨by omega, by omega, by omega, by omega, by omega⟩, fun l hl => ?_⟩
    refine nw_lst (Q := Q) (O := O) (ds := rangeD 0 jj.toNat) (fun v H' s ⟨a, us, es, e1, e2, e3, e4, e5⟩ => ?_) hl hdv
    obtain ⟨k3, i3⟩ := r1.fin s
    refine im _ n v H' (k1.trans k3) i3 ⟨a, us, es, e1, e2, ?_, e4, e5⟩ q
    cases e0 : H a with
    | none => rfl
    | some u =>
      by_cases qs : G.F.S a
      · exact (G.F.al n H1 a i1 qs e3).elim
      · rw [k1 a u e0 qs] at e3
        cases e3
  · exact q1.elim
theorem ix_mem {ds : List PyData} {r : Int} (h0 : 0 ≤ r) (h1 : r < ds.length) : ∃ d ∈ ds, gIx (.list ds) (.int r) = some d := by
  obtain ⟨i, rfl⟩ : ∃ i : Nat, r = (i : Int) := ⟨r.toNat, by omega⟩
  have hi : i < ds.length := by omega
  refine ⟨ds[i], List.getElem_mem hi, ?_⟩
  show atI ds (i : Int) = _
  unfold atI
  rw [ixN_nat rfl hi]
  exact List.getElem?_eq_getElem hi
end
end Dl
/-! Trees: the mathematics. -/
namespace Sh
open PySem PySem.Spec PyProof.Rows L2 Gd Dl
inductive Tr
  | nil
  | node (l r : Tr)
def Tr.size : Tr → Nat
  | .nil => 0
  | .node l r => l.size + r.size + 1
def encT : Tr → PyData
  | .nil => .tuple []
  | .node l r => .tuple [encT l, encT r]
def ents : Tr → Int → List Int
  | .nil, _ => []
  | .node l r, e => ents l (e + 1) ++ [e] ++ ents r e
def dsts : Tr → Bool → List Int
  | .nil, _ => []
  | .node l r, b => dsts l b ++ [if b then ((dsts l b).length : Int) + 1 else 0] ++ dsts r true
theorem ents_length : ∀ (t : Tr) (e : Int), (ents t e).length = t.size
  | .nil, _ => rfl
  | .node l r, e => by
    show (ents l (e + 1) ++ [e] ++ ents r e).length = l.size + r.size + 1
    rw [List.length_append, List.length_append, ents_length l, ents_length r]
    simp
    omega
theorem dsts_length : ∀ (t : Tr) (b : Bool), (dsts t b).length = t.size
  | .nil, _ => rfl
  | .node l r, b => by
    show (dsts l b ++ [_] ++ dsts r true).length = l.size + r.size + 1
    rw [List.length_append, List.length_append, dsts_length l, dsts_length r]
    simp
    omega
theorem ents_ge : ∀ (t : Tr) (e x : Int), x ∈ ents t e → e ≤ x ∧ x ≤ e + t.size
  | .nil, _, _, h => by cases h
  | .node l r, e, x, h => by
    have h' : x ∈ ents l (e + 1) ++ [e] ++ ents r e := h
    have hs : (Tr.node l r).size = l.size + r.size + 1 := rfl
    rcases List.mem_append.mp h' with z | z
    · rcases List.mem_append.mp z with z | z
      · have := ents_ge l (e + 1) x z
        omega
      · simp at z
        omega
    · have := ents_ge r e x z
      omega
theorem en_app {a b : List Int} {i : Nat} : en (a ++ b) i = if i < a.length then en a i else en b (i - a.length) := by
  unfold en
  rw [List.getD_eq_getElem?_getD, List.getD_eq_getElem?_getD, List.getD_eq_getElem?_getD, List.getElem?_append]
  split <;> rfl
theorem prevLe_app (a b : List Int) (p : Nat) (hp : p < a.length) : ∀ k, k ≤ p → prevLe (a ++ b) p k = prevLe a p k
  | 0, _ => rfl
  | k + 1, h => by
    have e1 : en (a ++ b) k = en a k := by rw [en_app, if_pos (by omega)]
    have e2 : en (a ++ b) p = en a p := by rw [en_app, if_pos hp]
    unfold prevLe
    rw [e1, e2, prevLe_app a b p hp k (by omega)]
theorem dist_app {a b : List Int} {p : Nat} (hp : p < a.length) : dist (a ++ b) p = dist a p := prevLe_app a b p hp p (Nat.le_refl _)
/-- the nearest earlier entry that is not greater stands at j -/
theorem dist_at {ns : List Int} {p j : Nat} (hj : j < p) (h : en ns j ≤ en ns p) (hi : ∀ i, j < i → i < p → en ns p < en ns i) : dist ns p = p - j := by
  unfold dist
  rcases prevLe_spec ns p p (Nat.le_refl _) with ⟨j', h1, h2, h3, h4⟩ | ⟨h1, h2⟩
  · rw [h4]
    by_cases e : j' = j
    · rw [e]
    · by_cases z : j < j'
      · have := hi j' z h1
        omega
      · have := h3 j (by omega) hj
        omega
  · have := h1 j hj
    omega
theorem dist_none {ns : List Int} {p : Nat} (hi : ∀ i, i < p → en ns p < en ns i) : dist ns p = 0 := by
  unfold dist
  rcases prevLe_spec ns p p (Nat.le_refl _) with ⟨j', h1, h2, h3, h4⟩ | ⟨h1, h2⟩
  · have := hi j' h1
    omega
  · exact h2
theorem en_mem {ns : List Int} {i : Nat} (h : i < ns.length) : en ns i ∈ ns := by
  unfold en
  rw [List.getD_eq_getElem?_getD, List.getElem?_eq_getElem h]
  exact List.getElem_mem h
theorem tree_dist : ∀ (t : Tr) (e : Int) (pre : List Int) (b : Bool), (b = true → ∃ pre' x, pre = pre' ++ [x] ∧ x ≤ e) → (b = false → pre = []) → ∀ i, i < t.size → ((dist (pre ++ ents t e) (pre.length + i) : Nat) : Int) = en (dsts t b) i
  | .nil, e, pre, b, _, _, i, h => by cases h
  | .node l r, e, pre, b, h1, h0, i, h => by
    have hs : (Tr.node l r).size = l.size + r.size + 1 := rfl
    have hel : (ents l (e + 1)).length = l.size := ents_length l _
    have hdl : (dsts l b).length = l.size := dsts_length l b
    have er : pre ++ ents (.node l r) e = (pre ++ ents l (e + 1)) ++ ([e] ++ ents r e) := by
      show pre ++ (ents l (e + 1) ++ [e] ++ ents r e) = _
      simp
    have er2 : pre ++ ents (.node l r) e = (pre ++ ents l (e + 1) ++ [e]) ++ ents r e := by
      show pre ++ (ents l (e + 1) ++ [e] ++ ents r e) = _
      simp
    have ed : dsts (.node l r) b = dsts l b ++ [if b then ((dsts l b).length : Int) + 1 else 0] ++ dsts r true := rfl
    rw [ed]
    by_cases c1 : i < l.size
    · rw [er, dist_app (by rw [List.length_append]; omega), en_app, if_pos (by simp; omega), en_app, if_pos (by omega)]
      exact tree_dist l (e + 1) pre b (fun z => by obtain ⟨p', x, e1, e2⟩ := h1 z; exact ⟨p', x, e1, by omega⟩) h0 i c1
    · by_cases c2 : i = l.size
      · subst c2
        have hroot : en (dsts l b ++ [if b then ((dsts l b).length : Int) + 1 else 0] ++ dsts r true) l.size = if b then (l.size : Int) + 1 else 0 := by
          rw [en_app, if_pos (by simp; omega), en_app, if_neg (by omega), hdl]
          simp [en]
        rw [hroot]
        have ep : en (pre ++ ents (.node l r) e) (pre.length + l.size) = e := by
          rw [er2, en_app, if_pos (by simp; omega), en_app, if_neg (by simp; omega)]
          simp [en, hel]
        have el : ∀ i, pre.length ≤ i → i < pre.length + l.size → e < en (pre ++ ents (.node l r) e) i := by
          intro i i1 i2
          rw [er, en_app, if_pos (by rw [List.length_append]; omega), en_app, if_neg (by omega)]
          have := ents_ge l (e + 1) _ (en_mem (ns := ents l (e + 1)) (i := i - pre.length) (by omega))
          omega
        cases b with
        | true =>
          obtain ⟨pre', x, e1, e2⟩ := h1 rfl
          have hx : en (pre ++ ents (.node l r) e) (pre.length - 1) = x := by
            rw [en_app, if_pos (by rw [e1]; simp), e1, en_app, if_neg (by simp)]
            simp [en]
          have hpl : 0 < pre.length := by rw [e1]; simp
          rw [dist_at (j := pre.length - 1) (by omega) (by rw [ep, hx]; exact e2) (fun i i1 i2 => by rw [ep]; exact el i (by omega) i2)]
          rw [if_pos rfl]
          omega
        | false =>
          have hp : pre = [] := h0 rfl
          subst hp
          rw [dist_none (fun i i2 => by rw [ep]; exact el i (Nat.zero_le _) i2)]
          rfl
      · have hi : i = l.size + 1 + (i - l.size - 1) := by omega
        have := tree_dist r e (pre ++ ents l (e + 1) ++ [e]) true (fun _ => ⟨_, _, rfl, Int.le_refl _⟩) (fun z => by cases z) (i - l.size - 1) (by omega)
        rw [er2, en_app, if_neg (by simp; omega)]
        have e3 : (pre ++ ents l (e + 1) ++ [e]).length + (i - l.size - 1) = pre.length + i := by simp; omega
        rw [e3] at this
        rw [this]
        congr 1
        simp
        omega
theorem shp_ents (t : Tr) : shp (ents t 0) = dsts t false := by
  refine List.ext_getElem? fun i => ?_
  by_cases h : i < t.size
  · have h1 : i < (shp (ents t 0)).length := by rw [shp_length, ents_length]; exact h
    have h2 : i < (dsts t false).length := by rw [dsts_length]; exact h
    have e1 : en (shp (ents t 0)) i = (dist (ents t 0) i : Nat) := en_shp (by rw [ents_length]; exact h)
    have e2 := tree_dist t 0 [] false (fun z => by cases z) (fun _ => rfl) i h
    rw [List.nil_append, List.length_nil, Nat.zero_add] at e2
    rw [e2] at e1
    unfold en at e1
    rw [List.getD_eq_getElem?_getD, List.getD_eq_getElem?_getD, List.getElem?_eq_getElem h1, List.getElem?_eq_getElem h2] at e1
    rw [List.getElem?_eq_getElem h1, List.getElem?_eq_getElem h2]
    exact congrArg some e1
  · rw [List.getElem?_eq_none (by rw [shp_length, ents_length]; omega), List.getElem?_eq_none (by rw [dsts_length]; omega)]
theorem encT_fit : ∀ t : Tr, Fit (3 * t.size) (t.size + 1) (encT t)
  | .nil => fit_tup (w := 0) (k := 0) (fun d hd => by cases hd) (by simp)
  | .node l r => by
    have f1 := encT_fit l
    have f2 := encT_fit r
    have hs : (Tr.node l r).size = l.size + r.size + 1 := rfl
    show Fit _ _ (.tuple [encT l, encT r])
    refine ⟨?_, ?_, ?_, ?_⟩
    · rw [PyData.showable, PyData.showableAll, PyData.showableAll, PyData.showableAll, f1.sh, f2.sh]
      rfl
    · rw [PyData.leavesShort, PyData.leavesShortAll, PyData.leavesShortAll, PyData.leavesShortAll, f1.lv, f2.lv]
      rfl
    · have w1 := f1.wt
      have w2 := f2.wt
      rw [PyData.weight, PyData.weightAll, PyData.weightAll, PyData.weightAll]
      omega
    · have d1 := f1.dp
      have d2 := f2.dp
      rw [PyData.depth, PyData.depthAll, PyData.depthAll, PyData.depthAll]
      omega
theorem encT_lay : ∀ t : Tr, (encT t).canLay0 = true
  | .nil => rfl
  | .node l r => by
    show PyData.canLayAll0 [encT l, encT r] = true
    rw [PyData.canLayAll0, PyData.canLayAll0, PyData.canLayAll0, encT_lay l, encT_lay r]
    rfl
theorem encT_nil {t : Tr} (h : t.size ≤ 60) : gEq false (encT t) (.tuple []) = some (.bool (match t with | .nil => true | _ => false)) := by
  have s1 : SeqAt.shaped (encT t) = true := by
    unfold SeqAt.shaped
    have := (encT_fit t).dp
    rw [encT_lay, decide_eq_true (by omega)]
    rfl
  have s2 : SeqAt.shaped (.tuple []) = true := by decide +kernel
  unfold gEq
  cases t with
  | nil =>
    show (if (SeqAt.shaped (PyData.tuple []) && SeqAt.shaped (PyData.tuple [])) = true then some (PyData.bool (false != PyData.eqv (PyData.tuple []) (PyData.tuple []))) else none) = _
    rw [s2, Bool.and_true, if_pos rfl]
    rfl
  | node l r =>
    show (if (SeqAt.shaped (encT (.node l r)) && SeqAt.shaped (PyData.tuple [])) = true then some (PyData.bool (false != PyData.eqv (PyData.tuple [encT l, encT r]) (PyData.tuple []))) else none) = _
    rw [s1, s2, Bool.and_true, if_pos rfl, PyData.eqv]
    rfl
end Sh
/-! Least rows: the mathematics. -/
namespace Sh
open PySem PySem.Spec PyProof.Rows L2 Gd Dl
/-- the place to which p leads, -1 if there is none -/
def tgt (ns : List Int) (p : Nat) : Int := if dist ns p = 0 then -1 else (p : Int) - (dist ns p : Nat)
theorem tgt_bd (ns : List Int) (p : Nat) : -1 ≤ tgt ns p ∧ tgt ns p < p := by
  unfold tgt
  have := dist_le ns p
  split <;> omega
theorem tgt_spec (ns : List Int) (p : Nat) : (∀ i : Nat, tgt ns p < i → i < p → en ns p < en ns i) ∧ (∀ t : Nat, tgt ns p = t → en ns t ≤ en ns p) := by
  unfold tgt dist
  rcases prevLe_spec ns p p (Nat.le_refl _) with ⟨j, h1, h2, h3, h4⟩ | ⟨h1, h2⟩
  · rw [h4, if_neg (by omega)]
    refine ⟨fun i i1 i2 => h3 i (by omega) i2, fun t ht => ?_⟩
    have : t = j := by omega
    rw [this]
    exact h2
  · rw [h2, if_pos rfl]
    exact ⟨fun i _ i2 => h1 i i2, fun t ht => by omega⟩
/-- an entry is at least that of the place to which it leads | all places between are greater -/
def Ac (ns e : List Int) : Prop := ∀ p : Nat, p < ns.length → ∀ t : Nat, tgt ns p = t → en e t ≤ en e p
def Bc (ns e : List Int) : Prop := ∀ p : Nat, p < ns.length → ∀ o : Nat, tgt ns p < o → o < p → en e p + 1 ≤ en e o
def Nn (ns e : List Int) : Prop := ∀ p : Nat, p < ns.length → 0 ≤ en e p
structure IsLow (ns e : List Int) : Prop where
  len : e.length = ns.length
  nn : Nn ns e
  b : Bc ns e
  a : Ac ns e
  low : ∀ e', Nn ns e' → Bc ns e' → ∀ p, p < ns.length → en e p ≤ en e' p
structure IsRai (ns e : List Int) : Prop where
  len : e.length = ns.length
  nn : Nn ns e
  b : Bc ns e
  a : Ac ns e
  low : ∀ e', Nn ns e' → Bc ns e' → Ac ns e' → ∀ p, p < ns.length → en e p ≤ en e' p
theorem low_rai {ns e f : List Int} (h : IsLow ns e) (g : IsRai ns f) : e = f := by
  refine List.ext_getElem? fun i => ?_
  by_cases hi : i < ns.length
  · have h1 := h.low f g.nn g.b i hi
    have h2 := g.low e h.nn h.b h.a i hi
    have l1 : i < e.length := by rw [h.len]; exact hi
    have l2 : i < f.length := by rw [g.len]; exact hi
    unfold en at h1 h2
    rw [List.getD_eq_getElem?_getD, List.getD_eq_getElem?_getD, List.getElem?_eq_getElem l1, List.getElem?_eq_getElem l2] at h1 h2
    rw [List.getElem?_eq_getElem l1, List.getElem?_eq_getElem l2]
    have h1' : e[i] ≤ f[i] := h1
    have h2' : f[i] ≤ e[i] := h2
    rw [show e[i] = f[i] by omega]
  · rw [List.getElem?_eq_none (by rw [h.len]; omega), List.getElem?_eq_none (by rw [g.len]; omega)]
theorem low_shp {ns e : List Int} (h : IsLow ns e) : shp e = shp ns := by
  unfold shp
  rw [h.len]
  refine List.map_congr_left fun p hp => ?_
  have hp' := List.mem_range.mp hp
  have hb := tgt_bd ns p
  have key : dist e p = dist ns p := by
    by_cases z : dist ns p = 0
    · rw [z]
      have ht : tgt ns p = -1 := by unfold tgt; rw [if_pos z]
      exact dist_none fun i hi => by have := h.b p hp' i (by omega) hi; omega
    · have ht : tgt ns p = ((p - dist ns p : Nat) : Int) := by
        unfold tgt
        rw [if_neg z]
        have := dist_le ns p
        omega
      have hd := dist_le ns p
      rw [dist_at (ns := e) (p := p) (j := p - dist ns p) (by omega) (h.a p hp' _ ht) (fun i i1 i2 => by have := h.b p hp' i (by omega) i2; omega)]
      omega
  rw [key]
theorem en_set {l : List Int} {p i : Nat} {x : Int} : en (l.set p x) i = if i = p ∧ p < l.length then x else en l i := by
  unfold en
  rw [List.getD_eq_getElem?_getD, List.getD_eq_getElem?_getD, List.getElem?_set]
  by_cases e : p = i
  · subst e
    rw [if_pos rfl]
    by_cases z : p < l.length
    · rw [if_pos z, if_pos ⟨rfl, z⟩]
      rfl
    · rw [if_neg z, if_neg (fun y => z y.2), List.getElem?_eq_none (by omega)]
  · rw [if_neg e, if_neg (fun y => e y.1.symm)]
/-- while the places from m on are done -/
structure LowI (ns e : List Int) (m : Nat) : Prop where
  len : e.length = ns.length
  nn : Nn ns e
  b : ∀ p : Nat, m ≤ p → p < ns.length → ∀ o : Nat, tgt ns p < o → o < p → en e p + 1 ≤ en e o
  w : ∀ o : Nat, o < ns.length → en e o = 0 ∨ ∃ q : Nat, m ≤ q ∧ q < ns.length ∧ tgt ns q < o ∧ o < q ∧ en e o = en e q + 1
  low : ∀ e', Nn ns e' → Bc ns e' → ∀ p, p < ns.length → en e p ≤ en e' p
theorem lowI_start (ns : List Int) : LowI ns (List.replicate ns.length 0) ns.length := by
  have e0 : ∀ i, en (List.replicate ns.length 0) i = 0 := by
    intro i
    unfold en
    rw [List.getD_eq_getElem?_getD, List.getElem?_replicate]
    split <;> rfl
  exact ⟨by simp, fun p _ => by rw [e0]; omega, fun p h1 h2 => by omega, fun o _ => .inl (e0 o), fun e' h _ p hp => by rw [e0]; exact h p hp⟩
/-- p is done: all between are raised above it -/
theorem lowI_step {ns e e2 : List Int} {m : Nat} (h : LowI ns e (m + 1)) (hm : m < ns.length) (hl : e2.length = e.length)
    (he : ∀ o : Nat, en e2 o = if tgt ns m < o ∧ o < m then (if en e m + 1 > en e o then en e m + 1 else en e o) else en e o) : LowI ns e2 m := by
  have em : en e2 m = en e m := by rw [he, if_neg (by omega)]
  have ge : ∀ o, en e o ≤ en e2 o := by
    intro o
    rw [he]
    split
    · split <;> omega
    · omega
  have eq : ∀ q, m ≤ q → en e2 q = en e q := fun q hq => by rw [he, if_neg (by omega)]
  refine ⟨hl.trans h.len, fun p hp => Int.le_trans (h.nn p hp) (ge p), fun p h1 h2 o o1 o2 => ?_, fun o ho => ?_, fun e' n' b' p hp => ?_⟩
  · by_cases z : p = m
    · subst z
      rw [em, he, if_pos ⟨o1, o2⟩]
      split <;> omega
    · rw [eq p h1]
      have := h.b p (by omega) h2 o o1 o2
      have := ge o
      omega
  · rw [he]
    by_cases c : tgt ns m < o ∧ o < m
    · rw [if_pos c]
      split
      · exact .inr ⟨m, Nat.le_refl _, hm, c.1, c.2, by rw [em]⟩
      · rcases h.w o ho with z | ⟨q, q1, q2, q3, q4, q5⟩
        · exact .inl z
        · exact .inr ⟨q, by omega, q2, q3, q4, by rw [q5, eq q (by omega)]⟩
    · rw [if_neg c]
      rcases h.w o ho with z | ⟨q, q1, q2, q3, q4, q5⟩
      · exact .inl z
      · exact .inr ⟨q, by omega, q2, q3, q4, by rw [q5, eq q (by omega)]⟩
  · rw [he]
    split
    · rename_i c
      split
      · have h1 := h.low e' n' b' m hm
        have h2 := b' m hm p c.1 c.2
        omega
      · exact h.low e' n' b' p hp
    · exact h.low e' n' b' p hp
theorem lowI_end {ns e : List Int} (h : LowI ns e 0) : IsLow ns e := by
  refine ⟨h.len, h.nn, fun p hp o o1 o2 => h.b p (Nat.zero_le _) hp o o1 o2, fun p hp t ht => ?_, h.low⟩
  have tb := tgt_bd ns p
  rcases h.w t (by omega) with z | ⟨q, q1, q2, q3, q4, q5⟩
  · rw [z]
    exact h.nn p hp
  · by_cases c : p < q
    · rw [q5]
      exact h.b q (Nat.zero_le _) q2 p (by omega) c
    · exfalso
      have sp := (tgt_spec ns p).1
      have st := (tgt_spec ns p).2 t ht
      by_cases e : q = p
      · subst e
        omega
      · have h1 := sp q (by omega) (by omega)
        have h2 := (tgt_spec ns q).1 t (by omega) q4
        omega
end Sh
namespace Sh
open PySem PySem.Spec PyProof.Rows L2 Gd Dl
structure RaiI (ns e : List Int) : Prop where
  len : e.length = ns.length
  nn : Nn ns e
  low : ∀ e', Nn ns e' → Bc ns e' → Ac ns e' → ∀ p, p < ns.length → en e p ≤ en e' p
theorem raiI_start (ns : List Int) : RaiI ns (List.replicate ns.length 0) := by
  have h := lowI_start ns
  exact ⟨h.len, h.nn, fun e' n' b' _ p hp => h.low e' n' b' p hp⟩
theorem sum_set : ∀ (l : List Int) (p : Nat) (x : Int), p < l.length → (l.set p x).sum = l.sum + x - en l p
  | [], p, x, h => by simp at h
  | a :: l, 0, x, h => by simp [en]; omega
  | a :: l, p + 1, x, h => by
    have := sum_set l p x (by simpa using h)
    simp only [List.set_cons_succ, List.sum_cons]
    rw [this]
    have : en (a :: l) (p + 1) = en l p := by simp [en]
    rw [this]
    omega
theorem sum_le : ∀ (a b : List Int), a.length = b.length → (∀ i, i < a.length → en a i ≤ en b i) → a.sum ≤ b.sum
  | [], [], _, _ => Int.le_refl _
  | [], _ :: _, h, _ => by cases h
  | _ :: _, [], h, _ => by cases h
  | x :: a, y :: b, h, g => by
    have h0 : x ≤ y := g 0 (by simp)
    have := sum_le a b (Nat.succ.inj h) fun i hi => by
      have := g (i + 1) (by simpa using hi)
      simpa [en] using this
    simp only [List.sum_cons]
    omega
/-- the entries themselves, moved up, are such a row -/
def top0 (ns : List Int) : List Int := ns.map fun x => x + 1000000000
theorem en_top {ns : List Int} {p : Nat} (h : p < ns.length) : en (top0 ns) p = en ns p + 1000000000 := by
  unfold en top0
  rw [List.getD_eq_getElem?_getD, List.getD_eq_getElem?_getD, List.getElem?_map, List.getElem?_eq_getElem h]
  rfl
theorem rai_top {ns e : List Int} (h : RaiI ns e) (bd : ∀ x ∈ ns, -1000000000 ≤ x ∧ x ≤ 1000000000) : e.sum ≤ (top0 ns).sum := by
  refine sum_le _ _ (by rw [h.len]; simp [top0]) fun i hi => h.low _ (fun p hp => ?_) (fun p hp o o1 o2 => ?_) (fun p hp t ht => ?_) i (by rw [← h.len]; exact hi)
  · rw [en_top hp]
    have := bd _ (en_mem hp)
    omega
  · rw [en_top hp, en_top (by omega)]
    have := (tgt_spec ns p).1 o o1 o2
    omega
  · have := tgt_bd ns p
    rw [en_top hp, en_top (by omega)]
    have := (tgt_spec ns p).2 t ht
    omega
theorem rai_set {ns e : List Int} {p : Nat} {x : Int} (h : RaiI ns e) (hp : p < ns.length) (hx : en e p ≤ x) (hl : ∀ e', Nn ns e' → Bc ns e' → Ac ns e' → (∀ q, q < ns.length → en e q ≤ en e' q) → x ≤ en e' p) : RaiI ns (e.set p x) := by
  refine ⟨by simp [h.len], fun q hq => ?_, fun e' n' b' a' q hq => ?_⟩
  · rw [en_set]
    split
    · have := h.nn p hp
      omega
    · exact h.nn q hq
  · rw [en_set]
    split
    · rename_i z
      rw [z.1]
      exact hl e' n' b' a' fun q hq => h.low e' n' b' a' q hq
    · exact h.low e' n' b' a' q hq
/-- within one pass: es at its start, b whether something was raised, P what holds of es if nothing was -/
structure St9 (ns es e : List Int) (b : Bool) (P : Prop) : Prop where
  rai : RaiI ns e
  f : b = false → e = es ∧ P
  t : b = true → es.sum < e.sum
theorem St9.ge {ns es e : List Int} {b : Bool} {P : Prop} (h : St9 ns es e b P) : es.sum ≤ e.sum := by
  cases b with
  | true => exact Int.le_of_lt (h.t rfl)
  | false => rw [(h.f rfl).1]; exact Int.le_refl _
theorem St9.imp {ns es e : List Int} {b : Bool} {P P' : Prop} (h : St9 ns es e b P) (g : e = es → P → P') : St9 ns es e b P' := ⟨h.rai, fun z => ⟨(h.f z).1, g (h.f z).1 (h.f z).2⟩, h.t⟩
theorem St9.up {ns es e : List Int} {b : Bool} {P P' : Prop} {p : Nat} {x : Int} (h : St9 ns es e b P) (hp : p < ns.length) (hx : en e p < x) (hl : ∀ e', Nn ns e' → Bc ns e' → Ac ns e' → (∀ q, q < ns.length → en e q ≤ en e' q) → x ≤ en e' p) : St9 ns es (e.set p x) true P' := by
  refine ⟨rai_set h.rai hp (by omega) hl, (fun z => by cases z), fun _ => ?_⟩
  rw [sum_set e p x (by rw [h.rai.len]; exact hp)]
  have := h.ge
  omega
end Sh
namespace Sh
open PySem PySem.Spec PyProof.Rows L2 Gd Dl
theorem top_sol {ns : List Int} (bd : ∀ x ∈ ns, -1000000000 ≤ x ∧ x ≤ 1000000000) : Nn ns (top0 ns) ∧ Bc ns (top0 ns) := by
  refine ⟨fun p hp => ?_, fun p hp o o1 o2 => ?_⟩
  · rw [en_top hp]
    have := bd _ (en_mem hp)
    omega
  · rw [en_top hp, en_top (by omega)]
    have := (tgt_spec ns p).1 o o1 o2
    omega
theorem low_bd {ns e : List Int} (h : IsLow ns e) (bd : ∀ x ∈ ns, -1000000000 ≤ x ∧ x ≤ 1000000000) : ∀ x ∈ e, 0 ≤ x ∧ x ≤ 2000000000 := by
  intro x hx
  obtain ⟨i, hi, rfl⟩ := List.mem_iff_getElem.mp hx
  have hn : i < ns.length := by rw [← h.len]; exact hi
  have e1 : en e i = e[i] := by
    unfold en
    rw [List.getD_eq_getElem?_getD, List.getElem?_eq_getElem hi]
    rfl
  have h1 := h.nn i hn
  have h2 := h.low _ (top_sol bd).1 (top_sol bd).2 i hn
  rw [en_top hn, e1] at h2
  rw [e1] at h1
  have := bd _ (en_mem hn)
  omega
end Sh
namespace Sh
open PySem PySem.Spec PyProof.Rows L2 Gd Dl
theorem dist_of_shp {a b : List Int} (h : shp a = shp b) : a.length = b.length ∧ ∀ p, p < a.length → dist a p = dist b p := by
  have hl : a.length = b.length := by rw [← shp_length a, h, shp_length]
  refine ⟨hl, fun p hp => ?_⟩
  have e1 := en_shp hp
  have e2 := en_shp (ns := b) (p := p) (by omega)
  rw [h, e2] at e1
  omega
theorem tgt_of_shp {a b : List Int} (h : shp a = shp b) {p : Nat} (hp : p < a.length) : tgt a p = tgt b p := by
  unfold tgt
  rw [(dist_of_shp h).2 p hp]
theorem sol_of_shp {ns e : List Int} (h : shp e = shp ns) : Bc ns e := by
  obtain ⟨hl, _⟩ := dist_of_shp h
  intro p hp o o1 o2
  rw [← tgt_of_shp h (by omega)] at o1
  have := (tgt_spec e p).1 o o1 o2
  omega
theorem IsLow.congr {a b e : List Int} (h : shp a = shp b) (g : IsLow a e) : IsLow b e := by
  obtain ⟨hl, _⟩ := dist_of_shp h
  have bc : ∀ {e : List Int}, Bc b e → Bc a e := fun z p hp o o1 o2 => z p (by omega) o (by rw [← tgt_of_shp h hp]; exact o1) o2
  refine ⟨by rw [g.len, hl], fun p hp => g.nn p (by omega), fun p hp o o1 o2 => g.b p (by omega) o (by rw [tgt_of_shp h (by omega)]; exact o1) o2, fun p hp t ht => g.a p (by omega) t (by rw [tgt_of_shp h (by omega)]; exact ht), fun e' n' b' p hp => g.low e' (fun q hq => n' q (by omega)) (bc b') p (by omega)⟩
theorem low_unique {a b e f : List Int} (h : shp a = shp b) (g : IsLow a e) (g' : IsLow b f) : e = f := by
  have g2 := IsLow.congr h g
  refine List.ext_getElem? fun i => ?_
  by_cases hi : i < b.length
  · have h1 := g2.low f g'.nn g'.b i hi
    have h2 := g'.low e g2.nn g2.b i hi
    have l1 : i < e.length := by rw [g2.len]; exact hi
    have l2 : i < f.length := by rw [g'.len]; exact hi
    unfold en at h1 h2
    rw [List.getD_eq_getElem?_getD, List.getD_eq_getElem?_getD, List.getElem?_eq_getElem l1, List.getElem?_eq_getElem l2] at h1 h2
    rw [List.getElem?_eq_getElem l1, List.getElem?_eq_getElem l2]
    have h1' : e[i] ≤ f[i] := h1
    have h2' : f[i] ≤ e[i] := h2
    rw [show e[i] = f[i] by omega]
  · rw [List.getElem?_eq_none (by rw [g2.len]; omega), List.getElem?_eq_none (by rw [g'.len]; omega)]
theorem take_set {l : List Int} {p : Nat} {x : Int} (h : p < l.length) : l.take p ++ [x] ++ l.drop (p + 1) = l.set p x := by
  rw [List.set_eq_take_append_cons_drop, if_pos h]
  simp
theorem less_bad {ns e : List Int} {p : Nat} (h : IsLow ns e) (hp : p < ns.length) (h0 : 0 < en e p) : shp (e.set p (en e p - 1)) ≠ shp ns := by
  intro z
  have hl : p < e.length := by rw [h.len]; exact hp
  have := h.low (e.set p (en e p - 1)) (fun q hq => by
    rw [en_set]
    split
    · omega
    · exact h.nn q hq) (sol_of_shp z) p hp
  rw [en_set, if_pos ⟨rfl, hl⟩] at this
  omega
theorem more_ok {ns e f : List Int} (h : IsLow ns e) (hf : ∀ p, p < ns.length → 0 ≤ en f p) (z : shp f = shp ns) : ∀ p, p < ns.length → en e p ≤ en f p := h.low f hf (sol_of_shp z)
theorem cut_drop {ms : List Int} {t : Nat} {x : Int} (e : x = (t : Nat)) (h : t ≤ ms.length) : gSlT (tupI ms) (some x) none = some (tupI (ms.drop t)) := by
  subst e
  unfold gSlT
  show some (PyData.tuple (Dl.cutD (ms.map dI) (some (t : Int)) none)) = _
  have : Dl.cutD (ms.map dI) (some (t : Int)) none = (ms.drop t).map dI := by
    unfold Dl.cutD
    rw [HT.sIx_none, HT.sIx_nat, List.length_map, Nat.min_eq_left h, List.map_drop, List.take_of_length_le (by simp)]
  rw [this]
end Sh
namespace Sh
open PySem PySem.Spec PyProof.Rows L2 Gd Dl
/-- the same order of earlier and later entries -/
def Oc (ns f : List Int) : Prop := f.length = ns.length ∧ ∀ i j : Nat, i < j → j < ns.length → (en f i ≤ en f j ↔ en ns i ≤ en ns j)
theorem oc_shp {ns f : List Int} (h : Oc ns f) : shp f = shp ns := by
  unfold shp
  rw [h.1]
  refine List.map_congr_left fun p hp => ?_
  have hp' := List.mem_range.mp hp
  have key : ∀ k, k ≤ p → prevLe f p k = prevLe ns p k := by
    intro k
    induction k with
    | zero => intro _; rfl
    | succ k ih =>
      intro hk
      unfold prevLe
      have := h.2 k p (by omega) hp'
      rw [ih (by omega)]
      by_cases z : en ns k ≤ en ns p
      · rw [if_pos z, if_pos (this.mpr z)]
      · rw [if_neg z, if_neg (fun y => z (this.mp y))]
  unfold dist
  rw [key p (Nat.le_refl _)]
theorem best_of_shp {a b : List Int} (h : shp a = shp b) (f : Nat) : ∀ k, f + k < a.length → best a f k = best b f k
  | 0, _ => rfl
  | k + 1, hk => by
    have ih := best_of_shp h f k (by omega)
    obtain ⟨hl, hd⟩ := dist_of_shp h
    have e : lead a (f + k + 1) f = lead b (f + k + 1) f := by
      unfold lead
      rw [hd (f + k + 1) (by omega)]
    rw [lead_best, lead_best] at e
    unfold best
    by_cases z : en a (f + k + 1) < en a (best a f k)
    · rw [if_pos z]
      rw [decide_eq_true z] at e
      rw [if_pos (of_decide_eq_true e.symm)]
    · rw [if_neg z]
      rw [decide_eq_false z] at e
      rw [if_neg (of_decide_eq_false e.symm), ih]
theorem shp_snoc (a : List Int) (x : Int) : (shp (a ++ [x])).take a.length = shp a := by
  unfold shp
  rw [← List.map_take, List.take_range]
  have : min a.length (a ++ [x]).length = a.length := by simp
  rw [this]
  exact List.map_congr_left fun p hp => by rw [dist_app (List.mem_range.mp hp)]
theorem shp_cons (a : List Int) (x : Int) (h : ∀ y ∈ a, y < x) : shp (x :: a) = 0 :: shp a := by
  have en1 : ∀ i, en (x :: a) (i + 1) = en a i := fun i => by simp [en]
  have en0 : en (x :: a) 0 = x := rfl
  have hd : ∀ p, p < a.length → dist (x :: a) (p + 1) = dist a p := by
    intro p hp
    rcases prevLe_spec a p p (Nat.le_refl _) with ⟨j, h1, h2, h3, h4⟩ | ⟨h1, h2⟩
    · have : dist a p = p - j := h4
      rw [this, dist_at (j := j + 1) (by omega) (by rw [en1, en1]; exact h2) (fun i i1 i2 => by
        obtain ⟨i', rfl⟩ : ∃ i', i = i' + 1 := ⟨i - 1, by omega⟩
        rw [en1, en1]
        exact h3 i' (by omega) (by omega))]
      omega
    · have : dist a p = 0 := h2
      rw [this]
      refine dist_none fun i i2 => ?_
      rw [en1]
      cases i with
      | zero => rw [en0]; exact h _ (en_mem hp)
      | succ i => rw [en1]; exact h1 i (by omega)
  unfold shp
  rw [List.length_cons, List.range_succ_eq_map, List.map_cons, List.map_map]
  congr 1
  exact List.map_congr_left fun p hp => by
    show ((dist (x :: a) (p + 1) : Nat) : Int) = _
    rw [hd p (List.mem_range.mp hp)]
end Sh
namespace Dl
open PySem PySem.Spec PyProof.Rows L2 Gd
theorem cutD_mid {ds : List PyData} {a b : Nat} : cutD ds (some (a : Int)) (some (b : Int)) = (ds.drop a).take (b - a) := by
  unfold cutD
  rw [HT.sIx_nat, HT.sIx_nat]
  by_cases h : a ≤ ds.length
  · rw [Nat.min_eq_left h, List.take_eq_take_iff, List.length_drop]
    omega
  · rw [List.drop_eq_nil_of_le (by omega), List.drop_eq_nil_of_le (by omega)]
    simp
theorem cutD_to {ds : List PyData} {b : Nat} : cutD ds none (some (b : Int)) = ds.take b := by
  unfold cutD
  rw [HT.sIx_nat, HT.sIx_none, List.drop_zero, Nat.sub_zero, List.take_eq_take_iff]
  omega
theorem cutD_from {ds : List PyData} {a : Nat} : cutD ds (some (a : Int)) none = ds.drop a := by
  unfold cutD
  rw [HT.sIx_nat, HT.sIx_none]
  by_cases h : a ≤ ds.length
  · rw [Nat.min_eq_left h, List.take_of_length_le (by simp)]
  · rw [List.drop_eq_nil_of_le (by omega), List.drop_eq_nil_of_le (by omega)]
    simp
theorem slT_mid {ds : List PyData} {a b : Nat} {x y : Int} (e : x = a) (e' : y = b) : gSlT (.tuple ds) (some x) (some y) = some (.tuple ((ds.drop a).take (b - a))) := by
  subst e e'
  unfold gSlT
  rw [← cutD_mid]
theorem slT_to {ds : List PyData} {b : Nat} {y : Int} (e' : y = b) : gSlT (.tuple ds) none (some y) = some (.tuple (ds.take b)) := by
  subst e'
  unfold gSlT
  rw [← cutD_to]
theorem slT_from {ds : List PyData} {a : Nat} {x : Int} (e : x = a) : gSlT (.tuple ds) (some x) none = some (.tuple (ds.drop a)) := by
  subst e
  unfold gSlT
  rw [← cutD_from]
theorem slL_mid {ds : List PyData} {a b : Nat} {x y : Int} (e : x = a) (e' : y = b) : gSlL (.list ds) (some x) (some y) = some (.list ((ds.drop a).take (b - a))) := by
  subst e e'
  unfold gSlL
  rw [← cutD_mid]
theorem slL_to {ds : List PyData} {b : Nat} {y : Int} (e' : y = b) : gSlL (.list ds) none (some y) = some (.list (ds.take b)) := by
  subst e'
  unfold gSlL
  rw [← cutD_to]
theorem slL_from {ds : List PyData} {a : Nat} {x : Int} (e : x = a) : gSlL (.list ds) (some x) none = some (.list (ds.drop a)) := by
  subst e
  unfold gSlL
  rw [← cutD_from]
theorem slT_midI {ms : List Int} {a b : Nat} {x y : Int} (e : x = a) (e' : y = b) : gSlT (tupI ms) (some x) (some y) = some (tupI ((ms.drop a).take (b - a))) := by
  rw [slT_mid e e']
  show _ = some (PyData.tuple (List.map dI _))
  rw [List.map_take, List.map_drop]
theorem slT_toI {ms : List Int} {b : Nat} {y : Int} (e' : y = b) : gSlT (tupI ms) none (some y) = some (tupI (ms.take b)) := by
  rw [slT_to e']
  show _ = some (PyData.tuple (List.map dI _))
  rw [List.map_take]
theorem slT_fromI {ms : List Int} {a : Nat} {x : Int} (e : x = a) : gSlT (tupI ms) (some x) none = some (tupI (ms.drop a)) := by
  rw [slT_from e]
  show _ = some (PyData.tuple (List.map dI _))
  rw [List.map_drop]
end Dl
namespace Sh
open PySem PySem.Spec PyProof.Rows L2 Gd Dl
/-- the entries from a on, k + 1 of them -/
def sub (ns : List Int) (a m : Nat) : List Int := (ns.drop a).take m
theorem sub_length {ns : List Int} {a m : Nat} (h : a + m ≤ ns.length) : (sub ns a m).length = m := by
  unfold sub
  rw [List.length_take, List.length_drop]
  omega
theorem en_sub {ns : List Int} {a m i : Nat} (h : i < m) : en (sub ns a m) i = en ns (a + i) := by
  unfold en sub
  rw [List.getD_eq_getElem?_getD, List.getD_eq_getElem?_getD, List.getElem?_take_of_lt h, List.getElem?_drop]
theorem dist_sub {ns : List Int} {a m i : Nat} (h : i < m) : dist (sub ns a m) i = if lead ns (a + i) a = true then 0 else dist ns (a + i) := by
  split
  · rename_i hl
    have hl := (lead_iff ns).mp hl
    refine dist_none fun j hj => ?_
    rw [en_sub h, en_sub (by omega)]
    exact hl (a + j) (by omega) (by omega)
  · rename_i hl
    rcases prevLe_spec ns (a + i) (a + i) (Nat.le_refl _) with ⟨j, h1, h2, h3, h4⟩ | ⟨h1, h2⟩
    · have h4 : dist ns (a + i) = a + i - j := h4
      have hj : a ≤ j := by
        refine Classical.byContradiction fun z => hl ?_
        refine (lead_iff ns).mpr fun q q1 q2 => h3 q (by omega) q2
      rw [h4]
      have := dist_at (ns := sub ns a m) (p := i) (j := j - a) (by omega) (by rw [en_sub (by omega), en_sub h, show a + (j - a) = j by omega]; exact h2) (fun q q1 q2 => by rw [en_sub h, en_sub (by omega)]; exact h3 (a + q) (by omega) (by omega))
      rw [this]
      omega
    · exact (hl ((lead_iff ns).mpr fun q _ q2 => h1 q q2)).elim
theorem shp_sub {ns : List Int} {a m : Nat} (h : a + m ≤ ns.length) : shp (sub ns a m) = (List.range m).map fun i => if lead ns (a + i) a = true then (0 : Int) else (dist ns (a + i) : Nat) := by
  unfold shp
  rw [sub_length h]
  refine List.map_congr_left fun i hi => ?_
  rw [dist_sub (List.mem_range.mp hi)]
  split <;> rfl
end Sh
namespace Dl
open PySem PySem.Spec PyProof.Rows L2 Gd
section
variable {X : Cx} {G : Gx}
/-- xs[j], xs[l] = e -/
def zSwap (i : Nat) (tj tl t : TD) : TSd := fun D E => t E fun d n => match d, E.ρ[i]? with
  | .tuple [x, y], some (.own ds) => tj ⟨E.ρ, n⟩ fun a m => match a with
    | .int k1 => opt (ixN ds.length k1) fun p1 => tl ⟨E.ρ.set i (.own (ds.set p1 x)), m⟩ fun b m2 => match b with
      | .int k2 => opt (ixN ds.length k2) fun p2 => D.nx ⟨E.ρ.set i (.own ((ds.set p1 x).set p2 y)), m2⟩
      | _ => False
    | _ => False
  | _, _ => False
theorem z_swap {i : Nat} {x : Str} {e j l : Expr} {t tj tl : TD} {pos p spos p2 spos2 tpos : Pos} {kt : Nat} (h : PE X (.Name x p) (tVar i)) (h' : PE X (.Name x p2) (tVar i)) (hj : PD X G j tj) (hl : PD X G l tl) (he : PD X G e t)
    (hg : PG X (.Tuple [.Subscript (.Name x p) j spos, .Subscript (.Name x p2) l spos2] kt tpos) (gTup X.K 2 (gCons (gSub (tVar i) (low G RD tj) rSetL) (gCons (gSub (tVar i) (low G RD tl) rSetL) gNil))))
    (hs : swapsWithSole [.Tuple [.Subscript (.Name x p) j spos, .Subscript (.Name x p2) l spos2] kt tpos] e pos.line X.env = pure false := by rfl) (hw : swappedStores [.Tuple [.Subscript (.Name x p) j spos, .Subscript (.Name x p2) l spos2] kt tpos] e X.env = pure none := by rfl)
    (h1 : (assignEach [.Tuple [.Subscript (.Name x p) j spos, .Subscript (.Name x p2) l spos2] kt tpos] X.env).map (·.2) = [assign (.Tuple [.Subscript (.Name x p) j spos, .Subscript (.Name x p2) l spos2] kt tpos) X.env] := by rfl) :
    PZ X G (.Assign [.Tuple [.Subscript (.Name x p) j spos, .Subscript (.Name x p2) l spos2] kt tpos] e pos) (zSwap i tj tl t) := PS.wk (ps_asg he hg hs hw h1) fun D σ H ⟨O, E, Dd, r, k, z⟩ => by
  refine ⟨O, E, _, r, ?_, z⟩
  rintro d n v H1 k1 i1 rv q1
  have r1 := r.step k1 i1
  split at q1
  · rename_i x y ds eo
    obtain ⟨T, xs, rfl, hT, nT, dT⟩ := Dv.unT rv
    cases dT with
    | cons d1 t1 =>
    cases t1 with
    | cons d2 t2 =>
    cases t2
    obtain ⟨a, vs, y1, y2, y3, y4, y5⟩ := r1.own i ds eo
    refine ⟨T, _, rfl, st_of hT, rfl, _, _, rfl, _, y1, O, _, _, r1, ?_, q1⟩
    rintro dj m w H2 k2 i2 rw' q2
    have r2 := r1.step k2 i2
    split at q2
    · rename_i kk
      obtain ⟨pp, e1, q3⟩ := opt_el q2
      obtain ⟨a', vs', w1, w2, w3, w4, w5⟩ := r2.own i ds eo
      rw [y1] at w1
      cases w1
      cases rw'
      refine ⟨a, vs', kk, pp, rfl, rfl, w2, by rw [w5.length]; exact e1, ?_⟩
      obtain ⟨r3, L3⟩ := r2.mut eo y1 y3 y4 (w5.setL (Dv.later (r1.lt k2) d1) pp)
      have eo3 : (E.ρ.set i (.own (ds.set pp x)))[i]? = some (.own (ds.set pp x)) := List.getElem?_set_self (List.getElem?_eq_some_iff.mp eo).1
      refine ⟨_, _, rfl, _, y1, O, _, _, r3, ?_, q3⟩
      rintro dl m2 w' H4 k4 i4 rw2 q4
      have r4 := r3.step k4 i4
      split at q4
      · rename_i kk2
        obtain ⟨pp2, e2, q5⟩ := opt_el q4
        obtain ⟨a', vs2, w1, w2, w3, w4, w5⟩ := r4.own i _ eo3
        rw [y1] at w1
        cases w1
        cases rw2
        have ld2 := Dv.later (r3.lt k4) (Dv.later L3 (Dv.later (r1.lt k2) d2))
        refine ⟨a, vs2, kk2, pp2, rfl, rfl, w2, by rw [w5.length, List.length_set]; exact e2, rfl, ?_⟩
        obtain ⟨r5, L5⟩ := r4.mut eo3 y1 y3 y4 (w5.setL ld2 pp2)
        have r5' := r5
        dsimp only at r5'
        rw [List.set_set] at r5'
        exact k.nx O _ _ _ (((((r.lt k1).trans (r1.lt k2)).trans L3).trans (r3.lt k4)).trans L5) r5' q5
      · exact q4.elim
    · exact q2.elim
  · exact q1.elim
def gMulX : PyData → PyData → Option PyData
  | .int i, .int j => if cMul i j then some (.int (i * j)) else none
  | .tuple a, .int k => gRepT (.tuple a) (.int k)
  | _, _ => none
theorem op2_mulX {K : PySem.W.Frag} : Op2 (fun x y H Q => rI CMul (fun i j => .int (i * j)) x y H Q ∨ rRepT K x y H Q) gMulX := by
  intro O H x y dx dy z Q al bx by' e q
  unfold gMulX at e
  split at e
  · rename_i i j
    refine .inl (op2_I (c := cMul) (C := CMul) (f := fun i j => .int (i * j)) (fun i j h => (of_decide_eq_true h : (-(2 ^ 63) ≤ i ∧ i ≤ 2 ^ 63) ∨ (-(2 ^ 63) ≤ j ∧ j ≤ 2 ^ 63)).elim (fun h => .inl (by constructor <;> omega)) (fun h => .inr (by constructor <;> omega))) (fun i j O H => .int _) O H x y _ _ z Q al bx by' ?_ q)
    exact e
  · rename_i a k
    have e' : (if decide (2 ≤ k ∧ k ≤ 1000 ∧ a.length ≤ 1000 ∧ a ≠ []) = true then some (PyData.tuple (List.replicate k.toNat a).flatten) else none) = some z := e
    split at e'
    · rename_i hc
      cases e'
      have hc := of_decide_eq_true hc
      obtain ⟨p, vs, rfl, h1, d1, w⟩ := bx.tup
      have l := d1.length
      refine .inr ⟨p, k, vs, rfl, by'.int, st_of h1, fun z => ?_, hc.1, hc.2.1, by omega, fun r hr => nw_tup al q hr (d1.repL _)⟩
      subst z
      cases d1
      exact hc.2.2.2 rfl
    · cases e'
  · cases e
theorem pd_mulX {a b : Expr} {ta tb : TD} {pos : Pos} (ha : PB X G a ta) (hb : PB X G b tb) : PD X G (.BinOp a .Mult b pos) (dOp gMulX ta tb) := PE.wk (pe_op (op_mul.or op_repT) ha hb) (dop op2_mulX)
theorem mul_tupI {ns : List Int} {k : Nat} {x : Int} (e : x = k) (h2 : 2 ≤ k) (hk : k ≤ 1000) (h0 : ns ≠ []) (hl : ns.length ≤ 1000) : gMulX (tupI ns) (.int x) = some (tupI (List.replicate k ns).flatten) := by
  subst e
  show gRepT (tupI ns) (.int (k : Int)) = _
  unfold gRepT
  have : decide (2 ≤ (k : Int) ∧ (k : Int) ≤ 1000 ∧ (ns.map dI).length ≤ 1000 ∧ ns.map dI ≠ []) = true := decide_eq_true ⟨by omega, by omega, by simpa using hl, by simpa using h0⟩
  show (if decide (2 ≤ (k : Int) ∧ (k : Int) ≤ 1000 ∧ (ns.map dI).length ≤ 1000 ∧ ns.map dI ≠ []) then _ else _) = _
  rw [this, if_pos rfl]
  show _ = some (PyData.tuple (List.map dI _))
  rw [List.map_flatten, List.map_replicate, Int.toNat_natCast]
end
end Dl
namespace Dl
open PySem PySem.Spec PyProof.Rows L2 Gd
theorem mul_int' {i j : Int} (h1 : -(2 ^ 63) ≤ i) (h2 : i ≤ 2 ^ 63) : gMulX (.int i) (.int j) = some (.int (i * j)) := by
  show (if cMul i j = true then _ else _) = _
  rw [show cMul i j = true from decide_eq_true (.inl ⟨h1, h2⟩), if_pos rfl]
theorem mul_intR {i j : Int} (h1 : -(2 ^ 63) ≤ j) (h2 : j ≤ 2 ^ 63) : gMulX (.int i) (.int j) = some (.int (i * j)) := by
  show (if cMul i j = true then _ else _) = _
  rw [show cMul i j = true from decide_eq_true (.inr ⟨h1, h2⟩), if_pos rfl]
end Dl
namespace Dl
open PySem PySem.Spec PyProof.Rows L2 Gd
/-- a comprehension over encoded items -/
theorem lc_M {α : Type} {tg : Tg} {tt : TDt} {te : TD} {ρ0 : List Sl} {Q : PyData → Nat → Prop} (xs : List α) (e : α → PyData) (p : α → Bool) (f : α → PyData) {n : Nat}
    (h : ∀ x ∈ xs, ∃ ρ, tg.put (e x) ρ0 = some ρ ∧ (∀ (n : Nat) (R : Bool → Nat → Prop), R (p x) n → tt ⟨ρ, n⟩ R) ∧ (p x = true → ∀ (n : Nat) (R : PyData → Nat → Prop), R (f x) n → te ⟨ρ, n⟩ R)) (hl : xs.length ≤ 100000) (q : Q (.list ((xs.filter p).map f)) n) : dLcL tg tt te ρ0 Q (xs.map e) [] n := by
  refine lc_I _ (fun i acc m => acc = ((xs.take i).filter p).map f ∧ m = n) ⟨by simp, rfl⟩ (fun i d acc m K hd hI nx => ?_) (fun acc m hI => ?_)
  · obtain ⟨rfl, rfl⟩ := hI
    rw [List.getElem?_map, Option.map_eq_some_iff] at hd
    obtain ⟨x, hx, rfl⟩ := hd
    obtain ⟨ρ, h1, h2, h3⟩ := h x (List.mem_of_getElem? hx)
    refine opt_of h1 (h2 _ _ ?_)
    have hi := (List.getElem?_eq_some_iff.mp hx).1
    have et : xs.take (i + 1) = xs.take i ++ [x] := by rw [List.take_succ, hx]; rfl
    cases hp : p x with
    | true =>
      rw [if_pos rfl]
      refine h3 hp _ _ ⟨?_, nx _ _ ⟨?_, rfl⟩⟩
      · have l1 := List.length_filter_le p (xs.take i)
        rw [List.length_map]
        have l2 : (xs.take i).length ≤ i := by rw [List.length_take]; omega
        omega
      · rw [et, List.filter_append, List.map_append]
        simp [hp]
    | false =>
      rw [if_neg (by decide)]
      refine nx _ _ ⟨?_, rfl⟩
      rw [et, List.filter_append, List.map_append]
      simp [hp]
  · obtain ⟨rfl, rfl⟩ := hI
    rw [List.length_map, List.take_length]
    exact q
theorem lc_M0 {α : Type} {tg : Tg} {tt : TDt} {te : TD} {ρ0 : List Sl} {Q : PyData → Nat → Prop} (xs : List α) (e : α → PyData) (f : α → PyData) {n : Nat}
    (h : ∀ x ∈ xs, ∃ ρ, tg.put (e x) ρ0 = some ρ ∧ (∀ (n : Nat) (R : Bool → Nat → Prop), R true n → tt ⟨ρ, n⟩ R) ∧ (∀ (n : Nat) (R : PyData → Nat → Prop), R (f x) n → te ⟨ρ, n⟩ R)) (hl : xs.length ≤ 100000) (q : Q (.list (xs.map f)) n) : dLcL tg tt te ρ0 Q (xs.map e) [] n := by
  refine lc_M xs e (fun _ => true) f (fun x hx => ?_) hl (by rw [List.filter_eq_self.mpr (fun _ _ => rfl)]; exact q)
  obtain ⟨ρ, h1, h2, h3⟩ := h x hx
  exact ⟨ρ, h1, h2, fun _ => h3⟩
theorem enumFrom_map {α : Type} (e : α → PyData) : ∀ (xs : List α) (k : Nat), enumFrom k (xs.map e) = (List.range xs.length).map fun i => .tuple [.int ((k + i : Nat) : Int), (xs.map e).getD i .none]
  | [], k => rfl
  | x :: r, k => by
    rw [List.map_cons, enumFrom, enumFrom_map e r (k + 1), List.length_cons, List.range_succ_eq_map, List.map_cons, List.map_map]
    refine congr (congrArg _ rfl) (List.map_congr_left fun i _ => ?_)
    show _ = PyData.tuple [.int ((k + (i + 1) : Nat) : Int), _]
    rw [show k + 1 + i = k + (i + 1) by omega]
    rfl
theorem enumD_map {α : Type} (e : α → PyData) (xs : List α) : enumD (xs.map e) = (List.range xs.length).map fun i => .tuple [.int (i : Nat), (xs.map e).getD i .none] := by
  unfold enumD
  rw [enumFrom_map e xs 0]
  refine List.map_congr_left fun i _ => ?_
  rw [Nat.zero_add]
end Dl
/-! ### claims -/
namespace Cl
open PySem PySem.Spec PyProof.Rows L2 Gd Dl Sh
structure Cm where
  f : Nat
  l : Nat
  p : Nat
deriving DecidableEq
def Cm.enc (c : Cm) : PyData := .tuple [.int c.f, .int c.l, .int c.p]
def Cm.ok (m : Nat) (c : Cm) : Prop := c.f ≤ c.p ∧ c.p ≤ c.l ∧ c.l < m
abbrev encs (cs : List Cm) : PyData := .tuple (cs.map Cm.enc)
def holds (ns : List Int) (c : Cm) : Bool := decide (best ns c.f (c.l - c.f) = c.p)
theorem Cm.fit {c : Cm} {m : Nat} (h : c.ok m) (hm : m ≤ 60) : Fit 460 1 c.enc := by
  obtain ⟨h1, h2, h3⟩ := h
  exact (fit_tupI (ns := [(c.f : Int), (c.l : Int), (c.p : Int)]) (m := 3) (fun x hx => by
    simp only [List.mem_cons, List.not_mem_nil, or_false] at hx
    rcases hx with rfl | rfl | rfl <;> omega) (by simp)).mono (by decide) (by decide)
theorem encs_fit {cs : List Cm} {m k : Nat} (h : ∀ c ∈ cs, c.ok m) (hm : m ≤ 60) (hk : cs.length ≤ k) : Fit (461 * k) 2 (encs cs) := by
  refine fit_tup (w := 460) (k := 1) (fun d hd => ?_) ?_
  · obtain ⟨c, hc, rfl⟩ := List.mem_map.mp hd
    exact Cm.fit (h c hc) hm
  · rw [List.length_map]
    exact Nat.mul_le_mul_left _ hk
/-- the claims that do not hold, among the first i -/
def brk (ns : List Int) (cs : List Cm) (i : Nat) : List Int := ((List.range i).filter fun j => !holds ns (cs.getD j ⟨0, 0, 0⟩)).map fun j : Nat => (j : Int)
theorem brk_succ (ns : List Int) (cs : List Cm) (i : Nat) : brk ns cs (i + 1) = brk ns cs i ++ if holds ns (cs.getD i ⟨0, 0, 0⟩) then [] else [(i : Int)] := by
  unfold brk
  rw [List.range_succ, List.filter_append, List.map_append]
  congr 1
  rw [List.filter_cons, List.filter_nil]
  cases holds ns (cs.getD i ⟨0, 0, 0⟩) <;> rfl
theorem brk_mem {ns : List Int} {cs : List Cm} {i : Nat} {x : Int} (h : x ∈ brk ns cs i) : 0 ≤ x ∧ x < i := by
  unfold brk at h
  obtain ⟨j, hj, rfl⟩ := List.mem_map.mp h
  have := List.mem_range.mp (List.mem_filter.mp hj).1
  omega
theorem brk_len {ns : List Int} {cs : List Cm} {i : Nat} : (brk ns cs i).length ≤ i := by
  unfold brk
  rw [List.length_map]
  have := List.length_filter_le (fun j => !holds ns (cs.getD j ⟨0, 0, 0⟩)) (List.range i)
  rw [List.length_range] at this
  exact this
theorem getD_map {α : Type} {e : α → PyData} {xs : List α} {i : Nat} {x0 : α} (h : i < xs.length) : (xs.map e).getD i .none = e (xs.getD i x0) := by
  rw [List.getD_eq_getElem?_getD, List.getD_eq_getElem?_getD, List.getElem?_map, List.getElem?_eq_getElem h]
  rfl
theorem getD_mem {α : Type} {xs : List α} {i : Nat} {x0 : α} (h : i < xs.length) : xs.getD i x0 ∈ xs := by
  rw [List.getD_eq_getElem?_getD, List.getElem?_eq_getElem h]
  exact List.getElem_mem h
end Cl
namespace Dl
open PySem PySem.Spec PyProof.Rows L2 Gd
theorem eqv_nil : ∀ ds : List PyData, PyData.eqvAll ds [] = decide (ds = [])
  | [] => by rw [PyData.eqvAll]; rfl
  | d :: ds => by rw [PyData.eqvAll]; exact (decide_eq_false (fun z => by cases z)).symm
/-- data that can be compared: no dicts, and no deeper than k -/
structure Pln (k : Nat) (d : PyData) : Prop where
  cl : d.canLay0 = true
  dp : d.depth ≤ k
theorem Pln.mono {k k' : Nat} {d : PyData} (h : Pln k d) (hk : k ≤ k') : Pln k' d := ⟨h.cl, Nat.le_trans h.dp hk⟩
theorem pln_int {i : Int} : Pln 0 (.int i) := ⟨by rw [PyData.canLay0], by rw [PyData.depth]; exact Nat.le_refl _⟩
theorem pln_bool {b : Bool} : Pln 0 (.bool b) := ⟨by rw [PyData.canLay0], by rw [PyData.depth]; exact Nat.le_refl _⟩
theorem pln_non : Pln 0 .none := ⟨by rw [PyData.canLay0], by rw [PyData.depth]; exact Nat.le_refl _⟩
theorem pln_all {k : Nat} : ∀ {ds : List PyData}, (∀ d ∈ ds, Pln k d) → PyData.canLayAll0 ds = true ∧ PyData.depthAll ds ≤ k
  | [], _ => ⟨by rw [PyData.canLayAll0], by rw [PyData.depthAll]; exact Nat.zero_le _⟩
  | d :: ds, h => by
    obtain ⟨h1, h2⟩ := pln_all fun x hx => h x (List.mem_cons_of_mem _ hx)
    have h3 := h d List.mem_cons_self
    exact ⟨by rw [PyData.canLayAll0, h3.cl, h1]; rfl, by rw [PyData.depthAll]; exact Nat.max_le.mpr ⟨h3.dp, h2⟩⟩
theorem pln_tup {k : Nat} {ds : List PyData} (h : ∀ d ∈ ds, Pln k d) : Pln (k + 1) (.tuple ds) := by
  obtain ⟨h1, h2⟩ := pln_all h
  exact ⟨by rw [PyData.canLay0]; exact h1, by rw [PyData.depth]; omega⟩
theorem pln_lst {k : Nat} {ds : List PyData} (h : ∀ d ∈ ds, Pln k d) : Pln (k + 1) (.list ds) := by
  obtain ⟨h1, h2⟩ := pln_all h
  exact ⟨by rw [PyData.canLay0]; exact h1, by rw [PyData.depth]; omega⟩
theorem pln_tupI {ns : List Int} : Pln 1 (tupI ns) := pln_tup fun d hd => by
  obtain ⟨x, _, rfl⟩ := List.mem_map.mp hd
  exact pln_int
theorem Pln.sh {k : Nat} {d : PyData} (h : Pln k d) (hk : k ≤ 64) : SeqAt.shaped d = true := by
  unfold SeqAt.shaped
  rw [h.cl, decide_eq_true (Nat.le_trans h.dp hk)]
  rfl
theorem eq_data {neg : Bool} {x y : PyData} {k : Nat} (hx : Pln k x) (hy : Pln k y) (hk : k ≤ 64) : gEq neg x y = some (.bool (neg != PyData.eqv x y)) := by
  unfold gEq
  split
  · rw [PyData.eqv]
    rfl
  · rename_i i j
    rw [PyData.eqv]
    congr 3
  · rw [hx.sh hk, hy.sh hk]
    rfl
theorem eqvAll_map {α : Type} [DecidableEq α] (e : α → PyData) : ∀ (xs ys : List α), (∀ x ∈ xs, ∀ y ∈ ys, PyData.eqv (e x) (e y) = decide (x = y)) → PyData.eqvAll (xs.map e) (ys.map e) = decide (xs = ys)
  | [], [], _ => by rw [List.map_nil, PyData.eqvAll]; rfl
  | [], y :: ys, _ => by rw [List.map_nil, List.map_cons, PyData.eqvAll]; exact (decide_eq_false (fun z => by cases z)).symm
  | x :: xs, [], _ => by rw [List.map_nil, List.map_cons, PyData.eqvAll]; exact (decide_eq_false (fun z => by cases z)).symm
  | x :: xs, y :: ys, h => by
    rw [List.map_cons, List.map_cons, PyData.eqvAll, h x List.mem_cons_self y List.mem_cons_self, eqvAll_map e xs ys fun a ha b hb => h a (List.mem_cons_of_mem _ ha) b (List.mem_cons_of_mem _ hb)]
    rw [Bool.eq_iff_iff]
    simp
theorem eq_nilL {neg : Bool} {ds : List PyData} {k : Nat} (h : ∀ d ∈ ds, Pln k d) (hk : k ≤ 63) : gEq neg (.list ds) (.list []) = some (.bool (neg != decide (ds = []))) := by
  rw [eq_data (k := k + 1) (pln_lst h) (pln_lst fun d hd => by cases hd) (by omega), PyData.eqv, eqv_nil]
end Dl
namespace Cl
open PySem PySem.Spec PyProof.Rows L2 Gd Dl Sh
theorem Cm.pln (c : Cm) : Pln 1 c.enc := pln_tup fun d hd => by
  simp only [List.mem_cons, List.not_mem_nil, or_false] at hd
  rcases hd with rfl | rfl | rfl <;> exact pln_int
end Cl
namespace Dl
open PySem PySem.Spec PyProof.Rows L2 Gd Cl
theorem lc_E {α : Type} {tg : Tg} {tt : TDt} {te : TD} {ρ0 : List Sl} {Q : PyData → Nat → Prop} (xs : List α) (e : α → PyData) (x0 : α) (p : Nat → α → Bool) (f : Nat → α → PyData) {n : Nat}
    (h : ∀ i, i < xs.length → ∃ ρ, tg.put (.tuple [.int (i : Nat), e (xs.getD i x0)]) ρ0 = some ρ ∧ (∀ (n : Nat) (R : Bool → Nat → Prop), R (p i (xs.getD i x0)) n → tt ⟨ρ, n⟩ R) ∧ (p i (xs.getD i x0) = true → ∀ (n : Nat) (R : PyData → Nat → Prop), R (f i (xs.getD i x0)) n → te ⟨ρ, n⟩ R)) (hl : xs.length ≤ 100000)
    (q : Q (.list (((List.range xs.length).filter fun i => p i (xs.getD i x0)).map fun i => f i (xs.getD i x0))) n) : dLcL tg tt te ρ0 Q (enumD (xs.map e)) [] n := by
  rw [enumD_map]
  refine lc_M (List.range xs.length) _ (fun i => p i (xs.getD i x0)) (fun i => f i (xs.getD i x0)) (fun i hi => ?_) (by rw [List.length_range]; exact hl) q
  have hi := List.mem_range.mp hi
  rw [getD_map (x0 := x0) hi]
  exact h i hi
end Dl
namespace Dl
open PySem PySem.Spec PyProof.Rows L2 Gd Cl
theorem add_tupD {a b : List PyData} (h : a.length + b.length ≤ 100000) : gAdd (.tuple a) (.tuple b) = some (.tuple (a ++ b)) := by
  show (if small2 a b = true then some (PyData.tuple (a ++ b)) else none) = _
  rw [show small2 a b = true from decide_eq_true h, if_pos rfl]
theorem add_encs {a b : List Cm} (h : a.length + b.length ≤ 100000) : gAdd (encs a) (encs b) = some (encs (a ++ b)) := by
  rw [add_tupD (by rw [List.length_map, List.length_map]; exact h), ← List.map_append]
theorem add_lstD {a b : List PyData} (h : a.length + b.length ≤ 100000) : gAdd (.list a) (.list b) = some (.list (a ++ b)) := by
  show (if small2 a b = true then some (PyData.list (a ++ b)) else none) = _
  rw [show small2 a b = true from decide_eq_true h, if_pos rfl]
end Dl
namespace Dl
open PySem PySem.Spec PyProof.Rows L2 Gd
section
variable {X : Cx} {G : Gx}
/-- x, y = data, a new list -/
def zParR (i j : Nat) (td tl : TD) : TSd := fun D E => td E fun x n => tl ⟨E.ρ, n⟩ fun d m => match d with | .list ds => D.nx ⟨(E.ρ.set i (.dat x)).set j (.own ds), m⟩ | _ => False
theorem z_parR {i j : Nat} {x y : Str} {a b : Expr} {tl td : TD} {px py pt pos : Pos} {kt k2 pt2} (hc : X.calm = true) (hN : X.N.Nodup) (hi : X.N[i]? = some x) (hj : X.N[j]? = some y) (hij : i ≠ j)
    (hx : X.env.scope.names.lookup x = some .local) (hy : X.env.scope.names.lookup y = some .local) (ha : PD X G a td) (hb : PL X G b tl)
    (hw : swappedStores [.Tuple [.Name x px, .Name y py] kt pt] (.Tuple [a, b] k2 pt2) X.env = pure (some [x, y]))
    (hs : swapsWithSole [.Tuple [.Name x px, .Name y py] kt pt] (.Tuple [a, b] k2 pt2) pos.line X.env = pure false := by rfl) (hs1 : starEach [a, b] X.env = (false, eval a X.env) :: starEach [b] X.env := by rfl) (hs2 : starEach [b] X.env = (false, eval b X.env) :: starEach [] X.env := by rfl) :
    PZ X G (.Assign [.Tuple [.Name x px, .Name y py] kt pt] (.Tuple [a, b] k2 pt2) pos) (zParR i j td tl) := PS.wk (ps_par hc hN hi hj hij hx hy (pa_cons ha (pa_cons hb pa_nil hs2) hs1) hw hs) fun D σ H ⟨O, E, Dd, r0, k0, z⟩ => by
  refine ⟨O, E, _, r0, ?_, z⟩
  rintro x n v H0 k00 i00 rv q0
  have r := r0.step k00 i00
  have k := k0.later (r0.lt k00)
  refine ⟨O, _, _, r, ?_, q0⟩
  rintro d m v2 H1 k1 i1 ⟨a, vs, ds, rfl, rfl, e3, e4, e5⟩ q1
  have r1 := r.step k1 i1
  have nO : ¬ O a := fun y => r.al a y e3
  have nS : ¬ G.F.S a := fun y => nO (r.sO a y)
  have hs0 : G.Hs a = none := by
    cases e0 : G.Hs a with
    | none => rfl
    | some u =>
      by_cases qs : G.F.S a
      · exact (nS qs).elim
      · rw [r.kp a u e0 qs] at e3
        cases e3
  have L1 : Later O H0 (fun x => O x ∨ x = a) H1 := ⟨fun x y => y.elim .inl fun y => .inr (y ▸ e3), fun x u y ny => (r.lt k1).h x u y ny⟩
  have r2 : Rel G (fun x => O x ∨ x = a) σ H1 ⟨E.ρ, m⟩ := by
    refine ⟨r1.len, fun j d e => ?_, fun j es e => ?_, r1.dif, r1.con, i1, fun x y => .inl (r1.bo x y), fun x y => ?_, r1.kp⟩
    · obtain ⟨v, y1, y2⟩ := r.dat j d e
      exact ⟨v, y1, Dv.later L1 y2⟩
    · obtain ⟨b, ws, y1, y2, y3, y4, y5⟩ := r.own j es e
      exact ⟨b, ws, y1, k1 _ _ y2 (fun y => G.hb b (G.sb b y) y4), .inl y3, y4, y5.later L1⟩
    · rcases y with y | y
      · exact r1.al x y
      · subst y
        rw [e4]
        exact fun y => by cases y
  have r3 := r2.set (i := i) (Dv.later L1 rv)
  refine ⟨_, _, rfl, k.nx _ _ H1 _ L1 (r3.setOwn (i := j) e4 hs0 (.inr rfl) e5 fun j' dj nj ej y => ?_) q1⟩
  have hij' : j' ≠ i := fun e => by
    subst e
    dsimp only at ej
    rw [List.getElem?_set] at ej
    simp only [if_true] at ej
    split at ej
    · cases ej
    · cases ej
  dsimp only at ej
  rw [List.getElem?_set_ne (fun e => hij' e.symm)] at ej
  rw [List.getElem?_set_ne (fun e => hij' e.symm)] at y
  obtain ⟨b, ws, y1, y2, y3, _⟩ := r.own j' dj ej
  rw [y] at y1
  cases y1
  exact nO y3
end
end Dl
namespace Dl
open PySem PySem.Spec PyProof.Rows L2 Gd
section
variable {X : Cx} {G : Gx}
def gIntB : PyData → Option PyData
  | .int i => some (.int i)
  | .bool b => some (.int (if b then 1 else 0))
  | _ => none
theorem pd_intB {a : Expr} {ta : TD} {p pos : Pos} (ha : PB X G a ta) (hm : X.mg "int" = none) (hg : Gl X "int" := by rfl) (hs : starEach [a] X.env = (false, eval a X.env) :: starEach [] X.env := by rfl) : PD X G (.Call (.Name "int" p) [a] [] pos) (dUn gIntB ta) :=
  PE.wk (pe_callTy call_int1 hg hm (by decide +kernel) (pa_cons ha pa_nil hs) (he := hs)) (cl1 (by
    intro O H x dx z Q al bx e q
    unfold gIntB at e
    split at e
    · cases e
      exact .inl ⟨_, by rw [bx.int], nw_now q (.int _)⟩
    · cases e
      exact .inr ⟨_, by rw [bx.bl], nw_now q (.int _)⟩
    · cases e))
end
theorem gMinL_val {ns : List Int} (h : ns ≠ []) : gMinL (lstI ns) = some (.int (minI ns)) := by
  show ((intsOf (ns.map dI)).bind fun ns => (if ns = [] then none else some (minI ns)).map dI) = _
  rw [intsOf_map]
  show (if ns = [] then none else some (minI ns)).map dI = _
  rw [if_neg h]
  rfl
theorem gMaxL_val {ns : List Int} (h : ns ≠ []) : gMaxL (lstI ns) = some (.int (maxI ns)) := by
  show ((intsOf (ns.map dI)).bind fun ns => (if ns = [] then none else some (maxI ns)).map dI) = _
  rw [intsOf_map]
  show (if ns = [] then none else some (maxI ns)).map dI = _
  rw [if_neg h]
  rfl
end Dl
namespace Dl
open PySem PySem.Spec PyProof.Rows L2 Gd
theorem gMinL_cons {x : Int} {ns : List Int} : gMinL (.list (.int x :: ns.map dI)) = some (.int (minI (x :: ns))) := gMinL_val (ns := x :: ns) (fun z => by cases z)
theorem gMaxL_cons {x : Int} {ns : List Int} : gMaxL (.list (.int x :: ns.map dI)) = some (.int (maxI (x :: ns))) := gMaxL_val (ns := x :: ns) (fun z => by cases z)
end Dl
namespace Dl
open PySem PySem.Spec PyProof.Rows L2 Gd
theorem rep_zero {m : Nat} {x : Int} (h : m ≤ 1000) : gRepL (.list [.int x]) (.int (m : Nat)) = some (lstI (List.replicate m x)) := by
  show (if decide (((m : Nat) : Int) ≤ 1000 ∧ -1000 ≤ ((m : Nat) : Int) ∧ [PyData.int x].length ≤ 100) = true then some (PyData.list (List.replicate ((m : Nat) : Int).toNat [PyData.int x]).flatten) else none) = _
  rw [decide_eq_true ⟨by omega, by omega, by simp⟩, if_pos rfl, Int.toNat_natCast]
  congr 2
  induction m with
  | zero => rfl
  | succ m ih =>
    rw [List.replicate_succ, List.flatten_cons, ih (by omega), List.replicate_succ]
    rfl
end Dl
namespace Dl
open PySem PySem.Spec PyProof.Rows L2 Gd
theorem eq_self {s : Str} : gEq false (.str s) (.str s) = some (.bool true) := by
  unfold gEq
  simp
end Dl
/-! defs that ask repr -/
namespace Dl
open PySem PySem.Spec PyProof.Rows L2 Gd
section
variable {X : Cx} {CX : CXT} {k : Nat} {f : Addr} {fd : FuncData} {ps : List Str} {sp : Sp} {ds : List Value} {dvs : List V} {E : XK}
theorem run_fnG {pins : List (Addr × Obj)} {σ : L2.St} {H : Hp} {s : Shared} {Q : VK} {us : List Value} {vs : List V} (F : FnG X.prog X.w X.K X.mg X.base CX k f fd ps sp) (hr : Room k X.A) (gd : X.A.guards = some []) (hb : Binds X.K fd ps []) (hx : Passes CX X E)
    (I : Inv X pins σ H s) (r : Vals vs us) (h : sp vs H Q E) : wpAny (model X.prog X.w) X.A (call (.ref f) us) (EP X pins σ Q) X.xe s := by
  have hl : us.length = ps.length := by rw [← r.length]; exact F.len _ _ _ _ h
  have b := hb s us I.kIn (by rw [List.append_nil]; exact hl)
  rw [List.append_nil] at b
  refine wpAny_call (codeAny_mono (F.run X.A X.stack s H ⟨us, []⟩ us vs Q E hr gd I.env0 b r h) fun r s' hq => ?_)
  cases r with
  | error e => exact hx pins σ H s e s' I hq
  | ok fl =>
    cases fl with
    | ret u => exact I.after hq
    | next => exact False.elim hq
    | brk => exact False.elim hq
    | cont => exact False.elim hq
def tCallG (sp : Sp) (E : XK) (t : TA) : TE := fun σ H Q => t σ H fun vs H1 => sp vs H1 Q E
theorem pe_callG {x : Str} {p pos : Pos} {e : Expr} {es : List Expr} {t : TA} (F : FnG X.prog X.w X.K X.mg X.base CX k f fd ps sp) (hr : Room k X.A) (gd : X.A.guards = some []) (hg : Gl X x) (hm : X.mg x = some (.ref f)) (hk : PySem.W.keepIn X.K (.ref f) = true) (hb : Binds X.K fd ps []) (hx : Passes CX X E)
    (ha : PA X (e :: es) t) (hdb : (x == ("__debug__" : Str)) = false := by decide) (he : starEach (e :: es) X.env = (false, eval e X.env) :: starEach es X.env := by rfl) (hpl : (backTo pos (starEach es X.env)).any (·.1) = false := by rfl) :
    PE X (.Call (.Name x p) (e :: es) [] pos) (tCallG sp E t) := by
  refine ⟨fun pins s σ H Q I h => ?_⟩
  refine wpAny_Call_Name_kw (ld_glob I hg hm ?_ hdb)
  refine PySem.W.callWith_K (h₀ := X.base) I.ok.mod.kin hk (thn (ha.run pos pins s σ H _ I h) fun us s1 ⟨vs, H1, I1, r, q⟩ => ⟨I1.kIn, ?_⟩) he hpl
  exact run_fnG F hr gd hb hx I1 r q
end
section
variable {X : Cx} {G : Gx}
theorem pd_callG {k m : Nat} {f : Addr} {fd : FuncData} {ps : List Str} {C : Con} {x : Str} {p pos : Pos} {e : Expr} {es : List Expr} {ts : TDa} (F : FnG X.prog X.w X.K X.mg X.base CX0 k f fd ps (spD C m)) (hr : Room k X.A) (gd : X.A.guards = some []) (hm : X.mg x = some (.ref f)) (hk : PySem.W.keepIn X.K (.ref f) = true) (hb : Binds X.K fd ps [])
    (ha : PR X G (e :: es) ts) (hg : Gl X x := by rfl) (hdb : (x == ("__debug__" : Str)) = false := by decide) (he : starEach (e :: es) X.env = (false, eval e X.env) :: starEach es X.env := by rfl) (hpl : (backTo pos (starEach es X.env)).any (·.1) = false := by rfl) :
    PD X G (.Call (.Name x p) (e :: es) [] pos) (dCall G.F C m ts) := PE.wk (pe_callG F hr gd hg hm hk hb pass0 ha hdb he hpl) fun σ H Q ⟨O, E, Qd, r, im, z⟩ => by
  refine ⟨O, E, _, r, ?_, z⟩
  rintro as n vs H1 k1 i1 rv ⟨q0, q1⟩
  have r1 := r.step k1 i1
  exact ⟨rv.length.trans q0, G.F, O, as, n, _, r.sO, r1.al, rv, i1, fun d n' v H' k2 i2 dv q2 => im d n' v H' (k1.trans k2) i2 dv q2, q1⟩
theorem pd_isi_str {a : Expr} {ta : TD} {p p2 pos : Pos} (ha : PB X G a ta) (hm : X.mg "isinstance" = none) (ht : X.mg "str" = none) (hg : Gl X "isinstance" := by rfl) (hgt : Gl X "str" := by rfl) (hs : starEach [a, .Name "str" p2] X.env = (false, eval a X.env) :: starEach [.Name "str" p2] X.env := by rfl)
    (hs2 : starEach [.Name "str" p2] X.env = (false, eval (.Name "str" p2) X.env) :: starEach [] X.env := by rfl) (hpl : (backTo pos (starEach [.Name "str" p2] X.env)).any (·.1) = false := by rfl) : PD X G (.Call (.Name "isinstance" p) [a, .Name "str" p2] [] pos) (dUn (gIsi "str") ta) :=
  isi_core kit_str (pe_bltn (v := .ty "str") hgt ht (by decide +kernel) rfl) ha hm hg hs hs2 hpl
end
section
variable {P : Program} {w : World} {K : PySem.W.Frag} {mg : Str → Option Value} {base : Heap}
theorem okDG {x qual : Str} {st : Stmt} {f : Addr} {fd : FuncData} {N ps : List Str} {k : Nat} {C : Con} {t : Gx → TSd} (F : Fun K x qual st f fd) (S : FnScope N ps (defScope st))
    (der : ∀ (G : Gx) (cdv : Value) (A : Around) (fr : List Env) (s : Shared) (H : Hp) (E : XK), Room k (A.deeper (envOfC qual (defScope st) s.heap.objs.size f cdv)) → (A.deeper (envOfC qual (defScope st) s.heap.objs.size f cdv)).guards = some [] → PZs (cxOf CX0 P w K mg base N qual (defScope st) f cdv A fr s H E).nox G (defBody st) (t G))
    (sem : ∀ (G : Gx) (as : List Ar) (n : Nat) (Qd : PyData → Nat → Prop), as.length = ps.length → C G.F as n Qd → t G { nx := fun E => Qd .none E.n, rt := Qd } ⟨as.map Ar.sl ++ List.replicate (N.length - ps.length) Sl.no, n⟩) :
    FnG P w K mg base CX0 (k + 1) f fd ps (spD C ps.length) := by
  refine fnG_of F S (fun vs H Q E h => h.1) (fun cdv A fr s H vs Q E hr hg h => ?_)
  obtain ⟨hl, F', B, as, n, Qd, sb, hb, hv, i, im, c⟩ := h
  refine ⟨_, der ⟨F', B, H, sb, hb⟩ cdv A fr s H E hr hg, B, _, _, rel_start (G := ⟨F', B, H, sb, hb⟩) hv rfl i, ?_, by have := sem ⟨F', B, H, sb, hb⟩ as n Qd (hv.length.symm.trans hl) c; rw [← hl] at this; exact this⟩
  exact ⟨fun O' σ' H' E' l r q => im .none E'.n .non H' r.kp r.str .non q, fun v H' d n k i dv q => im d n v H' k i dv q, fun _ _ _ _ _ _ q => q.elim, fun _ _ _ _ _ _ q => q.elim⟩
structure CdG (P : Program) (w : World) (K : PySem.W.Frag) (mg : Str → Option Value) (base : Heap) (k : Nat) (x : Str) (f : Addr) (fd : FuncData) (ps : List Str) (C : Con) : Prop where
  G : FnG P w K mg base CX0 k f fd ps (spD C ps.length)
  kp : PySem.W.keepIn K (.ref f) = true
  b : Binds K fd ps []
  g : mg x = some (.ref f)
theorem FnG.mono {CX : CXT} {j k : Nat} {f : Addr} {fd : FuncData} {ps : List Str} {sp : Sp} (F : FnG P w K mg base CX j f fd ps sp) (h : j ≤ k) : FnG P w K mg base CX k f fd ps sp :=
  ⟨F.len, fun A fr s H ar us vs Q E hr => F.run A fr s H ar us vs Q E (hr.mono h)⟩
theorem CdG.mono {j k : Nat} {x : Str} {f : Addr} {fd : FuncData} {ps : List Str} {C : Con} (c : CdG P w K mg base j x f fd ps C) (h : j ≤ k) : CdG P w K mg base k x f fd ps C := ⟨FnG.mono c.G h, c.kp, c.b, c.g⟩
theorem fnG_false {k m : Nat} {f : Addr} {fd : FuncData} {ps : List Str} {C : Con} (hm : m = ps.length) (h : ∀ F as n Q, ¬ C F as n Q) : FnG P w K mg base CX0 k f fd ps (spD C m) :=
  ⟨fun vs H Q E q => q.1.trans hm, fun A outer s H args us vs Q E _ _ _ _ _ ⟨_, F, B, as, n, Qd, _, _, _, _, _, c⟩ => (h F as n Qd c).elim⟩
end
end Dl
namespace Dl
open PySem PySem.Spec PyProof.Rows L2 Gd
theorem units65 {k : Nat} {A : Around} (r : Room k A) : A.units + 65 < cLine := by have := r.un; omega
def rInX (K : PySem.W.Frag) (neg : Bool) : R2 := fun x y H Q => ∃ d ds, Dp K H x d ∧ (Dp K H y (.list ds) ∨ Dp K H y (.tuple ds)) ∧ SeqAt.shaped d = true ∧ SeqAt.shaped (.list ds) = true ∧ Q (.bl (neg != ds.any fun z => PyData.eqv z d)) H
section
variable {X : Cx} {G : Gx}
theorem op_inX (hu : X.A.units + 65 < cLine) : OpR X (compareOp .In) (rInX X.K false) := by
  intro pins s σ H x y v u Q I rx ry h
  obtain ⟨d, ds, hd, he, sd, se, q⟩ := h
  rw [Bool.false_bne] at q
  obtain ⟨as, r1⟩ := Dp.reads I d x v hd rx
  rcases he with he | he
  · obtain ⟨bs, r2⟩ := Dp.reads I (.list ds) y u he ry
    exact SeqAt.in_list_reads r2 r1 (SeqAt.canLay_of_shaped se) (SeqAt.canLay_of_shaped sd) (room_in_shaped sd hu) ⟨.bl _, H, I, rfl, q⟩
  · obtain ⟨bs, r2⟩ := Dp.reads I (.tuple ds) y u he ry
    exact SeqAt.in_tuple_reads r2 r1 (SeqAt.canLay_of_shaped se) (SeqAt.canLay_of_shaped sd) (room_in_shaped sd hu) ⟨.bl _, H, I, rfl, q⟩
theorem op_notInX (hu : X.A.units + 65 < cLine) : OpR X (compareOp .NotIn) (rInX X.K true) := by
  intro pins s σ H x y v u Q I rx ry h
  obtain ⟨d, ds, hd, he, sd, se, q⟩ := h
  rw [Bool.true_bne] at q
  obtain ⟨as, r1⟩ := Dp.reads I d x v hd rx
  rcases he with he | he
  · obtain ⟨bs, r2⟩ := Dp.reads I (.list ds) y u he ry
    exact SeqAt.notIn_list_reads r2 r1 (SeqAt.canLay_of_shaped se) (SeqAt.canLay_of_shaped sd) (room_in_shaped sd hu) ⟨.bl _, H, I, rfl, q⟩
  · obtain ⟨bs, r2⟩ := Dp.reads I (.tuple ds) y u he ry
    exact SeqAt.notIn_tuple_reads r2 r1 (SeqAt.canLay_of_shaped se) (SeqAt.canLay_of_shaped sd) (room_in_shaped sd hu) ⟨.bl _, H, I, rfl, q⟩
end
@[irreducible] def gInX (neg : Bool) : PyData → PyData → Option PyData
  | x, .list ds => if SeqAt.shaped x && SeqAt.shaped (.list ds) then some (.bool (neg != ds.any fun z => PyData.eqv z x)) else none
  | x, .tuple ds => if SeqAt.shaped x && SeqAt.shaped (.list ds) then some (.bool (neg != ds.any fun z => PyData.eqv z x)) else none
  | _, _ => none
theorem shaped_lt {ds : List PyData} (h : SeqAt.shaped (.list ds) = true) : SeqAt.shaped (.tuple ds) = true := by
  unfold SeqAt.shaped at h ⊢
  simp only [PyData.canLay0, PyData.depth] at h ⊢
  exact h
theorem l_inX {K : PySem.W.Frag} {neg : Bool} : Op2 (rInX K neg) (gInX neg) := by
  intro O H x y dx dy z Q al bx by' e q
  unfold gInX at e
  split at e
  · split at e
    · rename_i hs
      rw [Bool.and_eq_true] at hs
      cases e
      exact ⟨dx, _, bx.dp hs.1, .inl (by'.dp hs.2), hs.1, hs.2, nw_now q (.bl _)⟩
    · cases e
  · split at e
    · rename_i hs
      rw [Bool.and_eq_true] at hs
      cases e
      exact ⟨dx, _, bx.dp hs.1, .inr (by'.dp (shaped_lt hs.2)), hs.1, hs.2, nw_now q (.bl _)⟩
    · cases e
  · cases e
theorem inX_list {neg : Bool} {x : PyData} {ds : List PyData} {k : Nat} (hx : Pln k x) (hd : ∀ d ∈ ds, Pln k d) (hk : k ≤ 63) : gInX neg x (.list ds) = some (.bool (neg != ds.any fun z => PyData.eqv z x)) := by
  unfold gInX
  show (if (SeqAt.shaped x && SeqAt.shaped (.list ds)) = true then some (PyData.bool (neg != ds.any fun z => PyData.eqv z x)) else none) = _
  rw [hx.sh (by omega), (pln_lst hd).sh (by omega)]
  rfl
theorem inX_tuple {neg : Bool} {x : PyData} {ds : List PyData} {k : Nat} (hx : Pln k x) (hd : ∀ d ∈ ds, Pln k d) (hk : k ≤ 63) : gInX neg x (.tuple ds) = some (.bool (neg != ds.any fun z => PyData.eqv z x)) := by
  unfold gInX
  show (if (SeqAt.shaped x && SeqAt.shaped (.list ds)) = true then some (PyData.bool (neg != ds.any fun z => PyData.eqv z x)) else none) = _
  rw [hx.sh (by omega), (pln_lst hd).sh (by omega)]
  rfl
theorem any_int {x : Int} : ∀ ns : List Int, ((ns.map dI).any fun z => PyData.eqv z (.int x)) = decide (x ∈ ns)
  | [] => rfl
  | y :: ns => by
    rw [List.map_cons, List.any_cons, any_int ns, PyData.eqv]
    rw [Bool.eq_iff_iff]
    simp
    constructor
    · rintro (h | h)
      · exact .inl h.symm
      · exact .inr h
    · rintro (h | h)
      · exact .inl h.symm
      · exact .inr h
theorem inX_ints {neg : Bool} {x : Int} {ns : List Int} : gInX neg (.int x) (lstI ns) = some (.bool (neg != decide (x ∈ ns))) := by
  rw [inX_list (k := 0) pln_int (fun d hd => by obtain ⟨y, _, rfl⟩ := List.mem_map.mp hd; exact pln_int) (by decide), any_int]
theorem inX_intsT {neg : Bool} {x : Int} {ns : List Int} : gInX neg (.int x) (tupI ns) = some (.bool (neg != decide (x ∈ ns))) := by
  rw [inX_tuple (k := 0) pln_int (fun d hd => by obtain ⟨y, _, rfl⟩ := List.mem_map.mp hd; exact pln_int) (by decide), any_int]
end Dl
namespace Dl
open PySem PySem.Spec PyProof.Rows L2 Gd Cl
theorem slT_midC {cs : List Cm} {a b : Nat} {x y : Int} (e : x = a) (e' : y = b) : gSlT (encs cs) (some x) (some y) = some (encs ((cs.drop a).take (b - a))) := by
  rw [slT_mid e e']
  show _ = some (PyData.tuple (List.map Cm.enc _))
  rw [List.map_take, List.map_drop]
theorem slT_toC {cs : List Cm} {b : Nat} {y : Int} (e' : y = b) : gSlT (encs cs) none (some y) = some (encs (cs.take b)) := by
  rw [slT_to e']
  show _ = some (PyData.tuple (List.map Cm.enc _))
  rw [List.map_take]
theorem slT_fromC {cs : List Cm} {a : Nat} {x : Int} (e : x = a) : gSlT (encs cs) (some x) none = some (encs (cs.drop a)) := by
  rw [slT_from e]
  show _ = some (PyData.tuple (List.map Cm.enc _))
  rw [List.map_drop]
theorem fit_bools {a b : Bool} : Fit 10 1 (.list [.bool a, .bool b]) := (fit_two (fit_bool (b := a)) (fit_bool (b := b))).mono (by decide) (by decide)
end Dl
namespace Dl
open PySem PySem.Spec PyProof.Rows L2 Gd
section
variable {X : Cx} {G : Gx}
/-- a new list among what is evaluated: from then on its address is avoided -/
theorem Rel.newList {O : Addr → Prop} {σ : L2.St} {H H1 : Hp} {E : En} {m : Nat} {a : Addr} {vs : List V} (r : Rel G O σ H E) (k1 : Kp G.F.S H H1) (i1 : G.F.I m H1) (e3 : H a = none) (e4 : H1 a = some (.lst vs)) :
    ¬ O a ∧ ¬ G.F.S a ∧ G.Hs a = none ∧ Later O H (fun x => O x ∨ x = a) H1 ∧ Rel G (fun x => O x ∨ x = a) σ H1 ⟨E.ρ, m⟩ := by
  have r1 := r.step k1 i1
  have nO : ¬ O a := fun y => r.al a y e3
  have nS : ¬ G.F.S a := fun y => nO (r.sO a y)
  have hs0 : G.Hs a = none := by
    cases e0 : G.Hs a with
    | none => rfl
    | some u =>
      by_cases qs : G.F.S a
      · exact (nS qs).elim
      · rw [r.kp a u e0 qs] at e3
        cases e3
  have L1 : Later O H (fun x => O x ∨ x = a) H1 := ⟨fun x y => y.elim .inl fun y => .inr (y ▸ e3), fun x u y ny => (r.lt k1).h x u y ny⟩
  refine ⟨nO, nS, hs0, L1, ?_⟩
  refine ⟨r1.len, fun j d e => ?_, fun j es e => ?_, r1.dif, r1.con, i1, fun x y => .inl (r1.bo x y), fun x y => ?_, r1.kp⟩
  · obtain ⟨v, y1, y2⟩ := r.dat j d e
    exact ⟨v, y1, Dv.later L1 y2⟩
  · obtain ⟨b, ws, y1, y2, y3, y4, y5⟩ := r.own j es e
    exact ⟨b, ws, y1, k1 _ _ y2 (fun y => G.hb b (G.sb b y) y4), .inl y3, y4, y5.later L1⟩
  · rcases y with y | y
    · exact r1.al x y
    · subst y
      rw [e4]
      exact fun y => by cases y
/-- x, y, z = data, a new list, data -/
def zPar3M (i j l : Nat) (ta tb tc : TD) : TSd := fun D E => ta E fun x n => tb ⟨E.ρ, n⟩ fun d m => tc ⟨E.ρ, m⟩ fun w o => match d with | .list ds => D.nx ⟨((E.ρ.set j (.own ds)).set i (.dat x)).set l (.dat w), o⟩ | _ => False
theorem z_par3M {i j l : Nat} {x y z : Str} {a b c : Expr} {ta tb tc : TD} {px py pz pt pos : Pos} {kt k2 pt2} (hc : X.calm = true) (hN : X.N.Nodup) (hi : X.N[i]? = some x) (hj : X.N[j]? = some y) (hl : X.N[l]? = some z) (hij : i ≠ j) (hil : i ≠ l) (hjl : j ≠ l)
    (hx : X.env.scope.names.lookup x = some .local) (hy : X.env.scope.names.lookup y = some .local) (hz : X.env.scope.names.lookup z = some .local) (ha : PD X G a ta) (hb : PL X G b tb) (hcc : PD X G c tc)
    (hw : swappedStores [.Tuple [.Name x px, .Name y py, .Name z pz] kt pt] (.Tuple [a, b, c] k2 pt2) X.env = pure (some [x, y, z]))
    (hs : swapsWithSole [.Tuple [.Name x px, .Name y py, .Name z pz] kt pt] (.Tuple [a, b, c] k2 pt2) pos.line X.env = pure false := by rfl)
    (hs1 : starEach [a, b, c] X.env = (false, eval a X.env) :: starEach [b, c] X.env := by rfl) (hs2 : starEach [b, c] X.env = (false, eval b X.env) :: starEach [c] X.env := by rfl) (hs3 : starEach [c] X.env = (false, eval c X.env) :: starEach [] X.env := by rfl) :
    PZ X G (.Assign [.Tuple [.Name x px, .Name y py, .Name z pz] kt pt] (.Tuple [a, b, c] k2 pt2) pos) (zPar3M i j l ta tb tc) := PS.wk (ps_par3 hc hN hi hj hl hij hil hjl hx hy hz (pa_cons ha (pa_cons hb (pa_cons hcc pa_nil hs3) hs2) hs1) hw hs) fun D σ H ⟨O, E, Dd, r, k, z⟩ => by
  refine ⟨O, E, _, r, ?_, z⟩
  rintro x n v H0 k0 i0 rv q0
  have r0 := r.step k0 i0
  refine ⟨O, _, _, r0, ?_, q0⟩
  rintro d m v2 H1 k1 i1 ⟨a, vs, ds, rfl, rfl, e3, e4, e5⟩ q1
  obtain ⟨nO, nS, hs0, L1, r2⟩ := r0.newList k1 i1 e3 e4
  refine ⟨_, _, _, r2, ?_, q1⟩
  rintro w o v3 H2 k2 i2 rv3 q2
  have r3 := r2.step k2 i2
  have e4' := k2 _ _ e4 nS
  have e5' := e5.later (r2.lt k2)
  have L2' := L1.trans (r2.lt k2)
  have r4 := r3.setOwn (i := j) e4' hs0 (.inr rfl) e5' (fun j' dj nj ej y => by
    obtain ⟨b, ws, y1, y2, y3, _⟩ := r.own j' dj ej
    rw [y] at y1
    cases y1
    exact nO y3)
  have r5 := (r4.set (i := i) (Dv.later L2' rv)).set (i := l) rv3
  have es : (((σ.set j (some (V.ref a))).set i (some v)).set l (some v3)) = (((σ.set i (some v)).set j (some (V.ref a))).set l (some v3)) := by
    rw [List.set_comm _ _ hij]
  rw [es] at r5
  exact ⟨_, _, _, rfl, k.nx _ _ H2 _ ((r.lt k0).trans L2') r5 q2⟩
end
end Dl
namespace Dl
open PySem PySem.Spec PyProof.Rows L2 Gd Cl
theorem ix_encs {cs : List Cm} {i : Nat} {x : Int} (e : x = (i : Nat)) (h : i < cs.length) : gIx (encs cs) (.int x) = some (cs.getD i ⟨0, 0, 0⟩).enc := by
  subst e
  show atI (cs.map Cm.enc) (i : Int) = _
  unfold atI
  rw [ixN_nat rfl (by rw [List.length_map]; exact h)]
  show (cs.map Cm.enc)[i]? = _
  rw [List.getElem?_map, List.getElem?_eq_getElem h, List.getD_eq_getElem?_getD, List.getElem?_eq_getElem h]
  rfl
end Dl
namespace Dl
open PySem PySem.Spec PyProof.Rows L2 Gd
section
variable {X : Cx} {G : Gx}
/-- xs.extend(e), e a list -/
def zExt (i : Nat) (t : TD) : TSd := fun D E => match E.ρ[i]? with | some (.own ds) => t E fun d n => (match d with | .list es => ds.length + es.length ≤ 100000 ∧ D.nx ⟨E.ρ.set i (.own (ds ++ es)), n⟩ | _ => False) | _ => False
theorem z_ext {i : Nat} {x : Str} {e : Expr} {t : TD} {pos p apos cpos : Pos} (h : PE X (.Name x p) (tVar i)) (he : PD X G e t) (hbase : attributeBase (.Name x p) "extend" X.env (eval (.Name x p) X.env) = eval (.Name x p) X.env := by rfl)
    (hfew : ((backTo cpos (starEach [e] X.env)).all (fun x => !x.1) && (backToKw cpos (keywordEach [] X.env)).all (fun x => x.1.isSome) && decide (([e] : List Expr).length + ([] : List Keyword).length + (if ([] : List Keyword).isEmpty then 0 else 1) < 30)) = true := by rfl)
    (hline : (apos.endLine == cpos.line) = true := by rfl) (hst : starEach [e] X.env = (false, eval e X.env) :: starEach [] X.env := by rfl) (hs : swapsWith (.Call (.Attribute (.Name x p) "extend" apos) [e] [] cpos) none pos.line X.env = pure false := by rfl) :
    PZ X G (.Expr (.Call (.Attribute (.Name x p) "extend" apos) [e] [] cpos) pos) (zExt i t) :=
  PS.wk (ps_expr (pe_bm PySem.F.plainAttrs_list PySem.F.slot_list_extend PySem.F.type_list_extend mt_extend h (pa_cons he pa_nil hst) hbase hfew hline hst) hs) fun D σ H ⟨O, E, Dd, r, k, z⟩ => by
    unfold zExt at z
    split at z
    · rename_i ds eo
      obtain ⟨a, vs, y1, y2, y3, y4, y5⟩ := r.own i ds eo
      refine ⟨_, y1, .inl ⟨rfl, _, sq_of y2⟩, O, E, _, r, ?_, z⟩
      rintro d n v H1 k1 i1 rv q1
      have r1 := r.step k1 i1
      obtain ⟨a', vs', w1, w2, w3, w4, w5⟩ := r1.own i ds eo
      rw [y1] at w1
      cases w1
      split at q1
      · obtain ⟨q0, q1⟩ := q1
        obtain ⟨b, us, rfl, h1, h2, h3⟩ := Dv.unL rv
        refine ⟨a, b, vs', us, rfl, rfl, w2, h1, sz_of (by rw [w5.length, h3.length]; exact q0), ?_⟩
        obtain ⟨r2, L2⟩ := r1.mut eo y1 y3 y4 (w5.app h3)
        exact k.nx O _ _ _ ((r.lt k1).trans L2) r2 q1
      · exact q1.elim
    · exact z.elim
end
end Dl
namespace Dl
open PySem PySem.Spec PyProof.Rows L2 Gd
theorem lc_revI {tg : Tg} {tt : TDt} {te : TD} {ρ0 : List Sl} {Q : PyData → Nat → Prop} (xs : List Int) (p : Int → Bool) (f : Int → PyData) {n : Nat}
    (h : ∀ x ∈ xs, ∃ ρ, tg.put (.int x) ρ0 = some ρ ∧ (∀ (n : Nat) (R : Bool → Nat → Prop), R (p x) n → tt ⟨ρ, n⟩ R) ∧ (p x = true → ∀ (n : Nat) (R : PyData → Nat → Prop), R (f x) n → te ⟨ρ, n⟩ R)) (hl : xs.length ≤ 100000) (q : Q (.list ((xs.reverse.filter p).map f)) n) : dLcL tg tt te ρ0 Q (xs.map dI).reverse [] n := by
  rw [← List.map_reverse]
  exact lc_M xs.reverse dI p f (fun x hx => h x (List.mem_reverse.mp hx)) (by rw [List.length_reverse]; exact hl) q
end Dl
namespace Dl
open PySem PySem.Spec PyProof.Rows L2 Gd
section
variable {X : Cx} {G : Gx}
/-- x, y, z = data, data, a new list -/
def zPar3R (i j l : Nat) (ta tb tc : TD) : TSd := fun D E => ta E fun x n => tb ⟨E.ρ, n⟩ fun w m => tc ⟨E.ρ, m⟩ fun d o => match d with | .list ds => D.nx ⟨((E.ρ.set l (.own ds)).set i (.dat x)).set j (.dat w), o⟩ | _ => False
theorem z_par3R {i j l : Nat} {x y z : Str} {a b c : Expr} {ta tb tc : TD} {px py pz pt pos : Pos} {kt k2 pt2} (hc : X.calm = true) (hN : X.N.Nodup) (hi : X.N[i]? = some x) (hj : X.N[j]? = some y) (hl : X.N[l]? = some z) (hij : i ≠ j) (hil : i ≠ l) (hjl : j ≠ l)
    (hx : X.env.scope.names.lookup x = some .local) (hy : X.env.scope.names.lookup y = some .local) (hz : X.env.scope.names.lookup z = some .local) (ha : PD X G a ta) (hb : PD X G b tb) (hcc : PL X G c tc)
    (hw : swappedStores [.Tuple [.Name x px, .Name y py, .Name z pz] kt pt] (.Tuple [a, b, c] k2 pt2) X.env = pure (some [x, y, z]))
    (hs : swapsWithSole [.Tuple [.Name x px, .Name y py, .Name z pz] kt pt] (.Tuple [a, b, c] k2 pt2) pos.line X.env = pure false := by rfl)
    (hs1 : starEach [a, b, c] X.env = (false, eval a X.env) :: starEach [b, c] X.env := by rfl) (hs2 : starEach [b, c] X.env = (false, eval b X.env) :: starEach [c] X.env := by rfl) (hs3 : starEach [c] X.env = (false, eval c X.env) :: starEach [] X.env := by rfl) :
    PZ X G (.Assign [.Tuple [.Name x px, .Name y py, .Name z pz] kt pt] (.Tuple [a, b, c] k2 pt2) pos) (zPar3R i j l ta tb tc) := PS.wk (ps_par3 hc hN hi hj hl hij hil hjl hx hy hz (pa_cons ha (pa_cons hb (pa_cons hcc pa_nil hs3) hs2) hs1) hw hs) fun D σ H ⟨O, E, Dd, r, k, z⟩ => by
  refine ⟨O, E, _, r, ?_, z⟩
  rintro x n v H0 k0 i0 rv q0
  have r0 := r.step k0 i0
  refine ⟨O, _, _, r0, ?_, q0⟩
  rintro w m v3 H1 k1 i1 rv3 q1
  have r1 := r0.step k1 i1
  refine ⟨O, _, _, r1, ?_, q1⟩
  rintro d o v2 H2 k2 i2 ⟨a, vs, ds, rfl, rfl, e3, e4, e5⟩ q2
  obtain ⟨nO, nS, hs0, L1, r2⟩ := r1.newList k2 i2 e3 e4
  have r4 := r2.setOwn (i := l) e4 hs0 (.inr rfl) e5 (fun j' dj nj ej y => by
    obtain ⟨b, ws, y1, y2, y3, _⟩ := r.own j' dj ej
    rw [y] at y1
    cases y1
    exact nO y3)
  have r5 := (r4.set (i := i) (Dv.later L1 (Dv.later (r0.lt k1) rv))).set (i := j) (Dv.later L1 rv3)
  have es : (((σ.set l (some (V.ref a))).set i (some v)).set j (some v3)) = (((σ.set i (some v)).set j (some v3)).set l (some (V.ref a))) := by
    rw [List.set_comm _ _ (Ne.symm hil), List.set_comm _ _ (Ne.symm hjl)]
  rw [es] at r5
  exact ⟨_, _, _, rfl, k.nx _ _ H2 _ (((r.lt k0).trans (r0.lt k1)).trans L1) r5 q2⟩
end
end Dl
/-! more rules over data: t[::-1], xs.pop(), xs.pop(0), str(int) -/
namespace Dl
open PySem PySem.Spec PyProof.Rows L2 Gd
section
variable {X : Cx} {G : Gx}
def gRevT : PyData → Option PyData
  | .tuple ds => some (.tuple ds.reverse)
  | _ => none
theorem DvL.rev {O : Addr → Prop} {H : Hp} : ∀ {a : List V} {c : List PyData}, DvL O H a c → DvL O H a.reverse c.reverse
  | _, _, .nil => .nil
  | _, _, .cons h t => by
    rw [List.reverse_cons, List.reverse_cons]
    exact DvL.app (DvL.rev t) (.cons h .nil)
theorem pd_revT {e : Expr} {t : TD} {k : Nat} {p1 p2 p3 pos : Pos} (he : PB X G e t) : PD X G (.Subscript e (.Slice none none (some (.UnaryOp .USub (.Constant (.int 1) k p1) p2)) p3) pos) (dUn gRevT t) :=
  PE.wk (pe_back he) fun σ H Q ⟨O, E, Qd, r, im, z⟩ => by
    refine ⟨O, E, _, r, ?_, z⟩
    rintro d n v H1 k1 i1 rv q1
    have r1 := r.step k1 i1
    obtain ⟨w, e, q⟩ := opt_el q1
    cases d with
    | tuple ds =>
      cases e
      obtain ⟨a, vs, rfl, h1, h2, _⟩ := Bw.tup rv.bw
      refine ⟨a, vs, rfl, st_of h1, fun p hp => ?_⟩
      have s1 : Same H1 (upd H1 p (.tup vs.reverse)) := same_upd' hp
      obtain ⟨k2, i2⟩ := r1.fin s1
      exact im _ n _ _ (k1.trans k2) i2 (Dv.mkT upd_same (fun y => r1.al p y hp) (h2.rev.later (later_new hp))) q
    | _ => cases e
/-- y = xs.pop(), xs a list of one's own -/
def zPop (i j : Nat) : TSd := fun D E => match E.ρ[j]? with | some (.own ds) => (match ds.getLast? with | some d => D.nx ⟨(E.ρ.set j (.own ds.dropLast)).set i (.dat d), E.n⟩ | none => False) | _ => False
theorem DvL.dropLastL {O : Addr → Prop} {H : Hp} {a : List V} {c : List PyData} (h : DvL O H a c) : DvL O H a.dropLast c.dropLast := by
  rw [List.dropLast_eq_take, List.dropLast_eq_take, h.length]
  exact h.takeL _
theorem z_pop {i j : Nat} {x y : Str} {pos pos' p apos cpos : Pos} (hN : X.N.Nodup) (hi : X.N[i]? = some x) (hx : Loc X.env.scope x) (h : PE X (.Name y p) (tVar j)) (hij : i ≠ j)
    (hs : swapsWith (.Call (.Attribute (.Name y p) "pop" apos) [] [] cpos) (some (.Name x pos')) pos.line X.env = pure false := by rfl) (hf : X.fn x = true ∨ X.env.scope.names.lookup x = some .local := by first | exact .inl rfl | exact .inr rfl | assumption)
    (hbase : attributeBase (.Name y p) "pop" X.env (eval (.Name y p) X.env) = eval (.Name y p) X.env := by rfl) (hline : (apos.endLine == cpos.line) = true := by rfl) :
    PZ X G (.Assign [.Name x pos'] (.Call (.Attribute (.Name y p) "pop" apos) [] [] cpos) pos) (zPop i j) :=
  PS.wk (ps_set hN hi hx (pe_bm0 PySem.F.plainAttrs_list PySem.F.slot_list_pop PySem.F.type_list_pop mt_pop h hbase hline) hs hf) fun D σ H ⟨O, E, Dd, r, k, z⟩ => by
    unfold zPop at z
    split at z
    · rename_i ds eo
      split at z
      · rename_i d ed
        obtain ⟨a, vs, y1, y2, y3, y4, y5⟩ := r.own j ds eo
        have ed' : ds[ds.length - 1]? = some d := by rw [← List.getLast?_eq_getElem?]; exact ed
        obtain ⟨v, hv, dv⟩ := y5.get ed'
        rw [← y5.length] at hv
        refine ⟨_, y1, .inl ⟨rfl, _, sq_of y2⟩, a, vs, v, rfl, rfl, y2, hv, ?_⟩
        obtain ⟨r2, L2⟩ := r.mut eo y1 y3 y4 y5.dropLastL
        exact k.nx O _ _ _ L2 (r2.set (Dv.later L2 dv)) z
      · exact z.elim
    · exact z.elim
/-- y = xs.pop(0) -/
def zPop0 (i j : Nat) : TSd := fun D E => match E.ρ[j]? with | some (.own (d :: ds)) => D.nx ⟨(E.ρ.set j (.own ds)).set i (.dat d), E.n⟩ | _ => False
theorem z_pop0 {i j k0 : Nat} {x y : Str} {pos pos' p apos cpos p0 : Pos} (hN : X.N.Nodup) (hi : X.N[i]? = some x) (hx : Loc X.env.scope x) (h : PE X (.Name y p) (tVar j)) (hij : i ≠ j)
    (hs : swapsWith (.Call (.Attribute (.Name y p) "pop" apos) [.Constant (.int 0) k0 p0] [] cpos) (some (.Name x pos')) pos.line X.env = pure false := by rfl) (hf : X.fn x = true ∨ X.env.scope.names.lookup x = some .local := by first | exact .inl rfl | exact .inr rfl | assumption)
    (hbase : attributeBase (.Name y p) "pop" X.env (eval (.Name y p) X.env) = eval (.Name y p) X.env := by rfl)
    (hfew : ((backTo cpos (starEach [.Constant (.int 0) k0 p0] X.env)).all (fun x => !x.1) && (backToKw cpos (keywordEach [] X.env)).all (fun x => x.1.isSome) && decide (([.Constant (.int 0) k0 p0] : List Expr).length + ([] : List Keyword).length + (if ([] : List Keyword).isEmpty then 0 else 1) < 30)) = true := by rfl)
    (hline : (apos.endLine == cpos.line) = true := by rfl) (hst : starEach [.Constant (.int 0) k0 p0] X.env = (false, eval (.Constant (.int 0) k0 p0) X.env) :: starEach [] X.env := by rfl) :
    PZ X G (.Assign [.Name x pos'] (.Call (.Attribute (.Name y p) "pop" apos) [.Constant (.int 0) k0 p0] [] cpos) pos) (zPop0 i j) :=
  PS.wk (ps_set hN hi hx (pe_bm PySem.F.plainAttrs_list PySem.F.slot_list_pop PySem.F.type_list_pop mt_popAt h (pa_cons pe_int pa_nil hst) hbase hfew hline hst) hs hf) fun D σ H ⟨O, E, Dd, r, k, z⟩ => by
    unfold zPop0 at z
    split at z
    · rename_i d ds eo
      obtain ⟨a, vs, y1, y2, y3, y4, y5⟩ := r.own j (d :: ds) eo
      cases y5 with
      | cons dv y5 =>
      rename_i v vs
      refine ⟨_, y1, .inl ⟨rfl, _, sq_of y2⟩, a, _, 0, 0, v, rfl, rfl, y2, by decide, by decide, (ixN_seq (ixN_nat (k := 0) rfl (Nat.succ_pos _))).1, rfl, ?_⟩
      obtain ⟨r2, L2⟩ := r.mut eo y1 y3 y4 y5
      exact k.nx O _ _ _ L2 (r2.set (Dv.later L2 dv)) z
    · exact z.elim
def gStrI : PyData → Option PyData
  | .int i => if i.natAbs < 2 ^ 200 then some (.str (toString i)) else none
  | _ => none
theorem gStrI_el {d z : PyData} (h : gStrI d = some z) : ∃ i : Int, d = .int i ∧ i.natAbs < 2 ^ 200 ∧ z = .str (toString i) := by
  cases d with
  | int i =>
    by_cases hi : i.natAbs < 2 ^ 200
    · have : gStrI (.int i) = some (.str (toString i)) := if_pos hi
      rw [this] at h
      exact ⟨i, rfl, hi, (Option.some.inj h).symm⟩
    · have : gStrI (.int i) = none := if_neg hi
      rw [this] at h
      cases h
  | _ => cases h
theorem pd_strI {a : Expr} {ta : TD} {p pos : Pos} (ha : PB X G a ta) (hm : X.mg "str" = none) (hg : Gl X "str" := by rfl) (hs : starEach [a] X.env = (false, eval a X.env) :: starEach [] X.env := by rfl) : PD X G (.Call (.Name "str" p) [a] [] pos) (dUn gStrI ta) :=
  PE.wk (pe_callTy call_str_int hg hm (by decide +kernel) (pa_cons ha pa_nil hs) (he := hs)) (cl1 fun O H x dx z Q al bx e q => by
    obtain ⟨i, rfl, hi, rfl⟩ := gStrI_el e
    obtain rfl := bx.int
    refine ⟨i, rfl, ?_, nw_now q (.str _)⟩
    by_cases z : i.natAbs = 0
    · rw [z]
      decide
    · exact Nat.lt_of_lt_of_le ((Nat.log2_lt z).mpr hi) (by decide))
/-- x, y = two new lists -/
def zParLL (i j : Nat) (ta tb : TD) : TSd := fun D E => ta E fun d n => tb ⟨E.ρ, n⟩ fun d' m => match d, d' with | .list ds, .list es => D.nx ⟨(E.ρ.set i (.own ds)).set j (.own es), m⟩ | _, _ => False
theorem z_parLL {i j : Nat} {x y : Str} {a b : Expr} {ta tb : TD} {px py pt pos : Pos} {kt k2 pt2} (hc : X.calm = true) (hN : X.N.Nodup) (hi : X.N[i]? = some x) (hj : X.N[j]? = some y) (hij : i ≠ j)
    (hx : X.env.scope.names.lookup x = some .local) (hy : X.env.scope.names.lookup y = some .local) (ha : PL X G a ta) (hb : PL X G b tb)
    (hw : swappedStores [.Tuple [.Name x px, .Name y py] kt pt] (.Tuple [a, b] k2 pt2) X.env = pure (some [x, y]))
    (hs : swapsWithSole [.Tuple [.Name x px, .Name y py] kt pt] (.Tuple [a, b] k2 pt2) pos.line X.env = pure false := by rfl) (hs1 : starEach [a, b] X.env = (false, eval a X.env) :: starEach [b] X.env := by rfl) (hs2 : starEach [b] X.env = (false, eval b X.env) :: starEach [] X.env := by rfl) :
    PZ X G (.Assign [.Tuple [.Name x px, .Name y py] kt pt] (.Tuple [a, b] k2 pt2) pos) (zParLL i j ta tb) := PS.wk (ps_par hc hN hi hj hij hx hy (pa_cons ha (pa_cons hb pa_nil hs2) hs1) hw hs) fun D σ H ⟨O, E, Dd, r, k, z⟩ => by
  refine ⟨O, E, _, r, ?_, z⟩
  rintro d n v H1 k1 i1 ⟨a, vs, ds, rfl, rfl, e3, e4, e5⟩ q1
  obtain ⟨nO, nS, hs0, L1, r2⟩ := r.newList k1 i1 e3 e4
  refine ⟨_, _, _, r2, ?_, q1⟩
  rintro d' m v2 H2 k2 i2 ⟨b, us, es, rfl, rfl, f3, f4, f5⟩ q2
  obtain ⟨nO2, nS2, hs02, L2, r3⟩ := r2.newList k2 i2 f3 f4
  have e4' := k2 _ _ e4 nS
  have ab : a ≠ b := fun y => by rw [← y, e4] at f3; cases f3
  refine ⟨_, _, rfl, k.nx _ _ H2 _ (L1.trans L2) ((r3.setOwn e4' hs0 (.inl (.inr rfl)) (e5.later L2) fun j dj nj ej y => ?_).setOwn f4 hs02 (.inr rfl) f5 fun j' dj nj ej y => ?_) q2⟩
  · obtain ⟨b', ws, y1, y2, y3, _⟩ := r.own j dj ej
    rw [y] at y1
    cases y1
    exact nO y3
  · by_cases q : j' = i
    · subst q
      rw [List.getElem?_set] at y
      split at y
      · split at y
        · cases y
          exact ab rfl
        · cases y
      · rename_i h
        exact h rfl
    · rw [List.getElem?_set_ne (fun y => q y.symm)] at y ej
      obtain ⟨b', ws, y1, y2, y3, _⟩ := r.own j' dj ej
      rw [y] at y1
      cases y1
      exact nO2 (.inl y3)
end
end Dl
namespace Dl
open PySem PySem.Spec PyProof.Rows L2 Gd
section
variable {X : Cx} {G : Gx}
/-- a list beside [], a tuple beside (), of any items -/
def rNil (K : PySem.W.Frag) (neg : Bool) : R2 := fun x y H Q => ∃ a b xs, x = .ref a ∧ y = .ref b ∧ ((H a = some (.lst xs) ∧ H b = some (.lst [])) ∨ (SqT K H a xs ∧ SqT K H b [])) ∧ Q (.bl (neg != xs.isEmpty)) H
theorem empty_vals {xs : List V} {us : List Value} (h : Vals xs us) : us.isEmpty = xs.isEmpty := by cases h <;> rfl
theorem op_eqN (hu : X.A.units + 64 < cLine) : OpR X (compareOp .Eq) (rNil X.K false) := by
  intro pins s σ H x y v u Q I rx ry want
  obtain ⟨a, b, xs, rfl, rfl, hc, q⟩ := want
  cases rx
  cases ry
  rcases hc with ⟨ha, hb⟩ | ⟨ha, hb⟩
  · obtain ⟨_, its, n, r, hl, e⟩ := I.lstM ha
    obtain ⟨_, its2, n2, r2, hl2, e2⟩ := I.lstM hb
    cases r2
    have i1 : s.heap.IsList a its.toArray := ⟨_, e, rfl, _, rfl⟩
    have i2 : s.heap.IsList b ([] : List Value).toArray := ⟨_, e2, rfl, _, rfl⟩
    cases r with
    | nil =>
      have rc := PySem.SeqAt.RcAt.lists (A := X.A) (e := fun _ => true) i1 i2 rfl (by omega) (fun j _ h2 => absurd h2 (by simp))
      exact rc X.prog X.w X.xe _ ⟨.bl true, H, I, rfl, q⟩
    | cons _ _ =>
      have rc := PySem.SeqAt.RcAt.lists_lengths (A := X.A) i1 i2 (by simp) (by omega)
      exact rc X.prog X.w X.xe _ ⟨.bl false, H, I, rfl, q⟩
  · obtain ⟨its, rv, t1, _⟩ := I.tuple ha
    obtain ⟨its2, rv2, t2, _⟩ := I.tuple hb
    cases rv2
    have i1 : s.heap.IsTuple a its.toArray := t1
    have i2 : s.heap.IsTuple b ([] : List Value).toArray := t2
    have rc := PySem.SeqAt.RcAt.tuples (A := X.A) (e := fun _ => true) i1 i2 (by omega) (fun j _ h2 => absurd h2 (by simp))
    refine rc X.prog X.w X.xe _ ⟨.bl (false != xs.isEmpty), H, I, ?_, q⟩
    cases rv with
    | nil => rfl
    | cons _ _ => rfl
theorem op_neN (hu : X.A.units + 64 < cLine) : OpR X (compareOp .NotEq) (rNil X.K true) := by
  intro pins s σ H x y v u Q I rx ry want
  obtain ⟨a, b, xs, rfl, rfl, hc, q⟩ := want
  cases rx
  cases ry
  rcases hc with ⟨ha, hb⟩ | ⟨ha, hb⟩
  · obtain ⟨_, its, n, r, hl, e⟩ := I.lstM ha
    obtain ⟨_, its2, n2, r2, hl2, e2⟩ := I.lstM hb
    cases r2
    have i1 : s.heap.IsList a its.toArray := ⟨_, e, rfl, _, rfl⟩
    have i2 : s.heap.IsList b ([] : List Value).toArray := ⟨_, e2, rfl, _, rfl⟩
    cases r with
    | nil =>
      have rc := PySem.SeqAt.RcNeAt.lists (A := X.A) (e := fun _ => true) i1 i2 rfl (by omega) (fun j _ h2 => absurd h2 (by simp))
      exact rc X.prog X.w X.xe _ ⟨.bl false, H, I, rfl, q⟩
    | cons _ _ =>
      have rc := PySem.SeqAt.RcNeAt.lists_lengths (A := X.A) i1 i2 (by simp) (by omega)
      exact rc X.prog X.w X.xe _ ⟨.bl true, H, I, rfl, q⟩
  · obtain ⟨its, rv, t1, _⟩ := I.tuple ha
    obtain ⟨its2, rv2, t2, _⟩ := I.tuple hb
    cases rv2
    have i1 : s.heap.IsTuple a its.toArray := t1
    have i2 : s.heap.IsTuple b ([] : List Value).toArray := t2
    have rc := PySem.SeqAt.RcNeAt.tuples (A := X.A) (e := fun _ => true) i1 i2 (by omega) (fun j _ h2 => absurd h2 (by simp))
    refine rc X.prog X.w X.xe _ ⟨.bl (true != xs.isEmpty), H, I, ?_, q⟩
    cases rv with
    | nil => rfl
    | cons _ _ => rfl
def gNil (neg : Bool) : PyData → PyData → Option PyData
  | .list ds, .list [] => some (.bool (neg != ds.isEmpty))
  | .tuple ds, .tuple [] => some (.bool (neg != ds.isEmpty))
  | _, _ => none
theorem empty_dv {O : Addr → Prop} {H : Hp} {vs : List V} {ds : List PyData} (h : DvL O H vs ds) : vs.isEmpty = ds.isEmpty := by cases h <;> rfl
theorem l_nil {K : PySem.W.Frag} {neg : Bool} : Op2 (rNil K neg) (gNil neg) := by
  intro O H x y dx dy z Q al bx by' e q
  unfold gNil at e
  split at e
  · cases e
    obtain ⟨a, vs, rfl, h1, d1⟩ := bx.lst
    obtain ⟨b, us, rfl, h2, d2⟩ := by'.lst
    cases d2
    exact ⟨a, b, vs, rfl, rfl, .inl ⟨h1, h2⟩, by rw [empty_dv d1]; exact nw_now q (.bl _)⟩
  · cases e
    obtain ⟨a, vs, rfl, h1, d1, _⟩ := bx.tup
    obtain ⟨b, us, rfl, h2, d2, _⟩ := by'.tup
    cases d2
    exact ⟨a, b, vs, rfl, rfl, .inr ⟨st_of h1, st_of h2⟩, by rw [empty_dv d1]; exact nw_now q (.bl _)⟩
  · cases e
end
end Dl
namespace Dl
open PySem PySem.Spec PyProof.Rows L2 Gd
theorem list_extend_tup (l : Addr) (items : Array Value) (n : Nat) (b : Addr) (items2 : Array Value) (n2 : Nat) (dd : Option Addr) (sl : Array (Option Value)) (hs0 : ¬(!items.isEmpty && Builtin.List.listTooLong (items.size + items2.size)) = true) (hs1 : items.size ≤ sizeLine) (hs2 : items.size + items2.size ≤ sizeLine + 1) :
    Meets (Builtin.«list.extend» ⟨[.ref l, .ref b], []⟩) (fun _ R s => s.heap.get? l = some { cls := .type "list", dict := none, data := .seq items n, slots := #[] } ∧ s.heap.get? b = some { cls := .type "tuple", dict := dd, data := .seq items2 n2, slots := sl } ∧ R (.ok (.ret Value.none)) { s with heap := s.heap.update l (Obj.mapSeq fun x => x ++ items2), toks := s.toks }) :=
  .of_wp fun prog w A R s h => by
    obtain ⟨hp, g, d, tk, os⟩ := s
    obtain ⟨hl, hb, h⟩ := h
    have f1 := AutoSeq1.idx_int
    have f2 := AutoSeq1.sub_tuple_tuple
    have f3 := AutoSeq1.sub_list_list
    have f4 := AutoSeq1.sub_tuple_list
    have f5 := AutoSeq1.sub_list_tuple
    have hz' : (items ++ items2).size ≤ sizeLine + 1 := by rw [Array.size_append]; exact hs2
    wp_walk using (wpAny_updateSeq hl rfl (hz := hs1) (_hz' := hz')), AutoSeq1.wpAny_loadPart' hl, AutoSeq1.wpAny_loadPart' hb
    exact ⟨_, rfl, h⟩
section
variable {X : Cx} {G : Gx}
def rExtT (K : PySem.W.Frag) : V → List V → Hp → VK → Prop := fun x vs H Q => ∃ l b xs zs, x = .ref l ∧ vs = [.ref b] ∧ H l = some (.lst xs) ∧ SqT K H b zs ∧ xs.length + zs.length ≤ sizeLine ∧ Q .non (upd H l (.lst (xs ++ zs)))
theorem mt_extT : MtM X "list.extend" (rExtT X.K) := by
  intro pins s σ H x vs v us Q I rx rv h
  obtain ⟨l, b, xs, zs, rfl, rfl, hH, hB, hz, q⟩ := h
  cases rx
  obtain ⟨u, rfl, ru⟩ := rv.one
  cases ru
  obtain ⟨z, its, n, r, hl, e⟩ := I.lstM hH
  obtain ⟨its2, r2, t2, hz2⟩ := I.tuple hB
  obtain ⟨⟨cls, dd, data, sl⟩, ho, hc, n2, hd⟩ := t2
  cases hc
  cases hd
  have hl2 := r2.length
  have hsz : its.toArray.size + its2.toArray.size ≤ sizeLine := by rw [List.size_toArray, List.size_toArray]; omega
  have hlong : ¬ (!its.toArray.isEmpty && Builtin.List.listTooLong (its.toArray.size + its2.toArray.size)) = true := by
    rw [notLongL hsz, Bool.and_false]
    exact Bool.false_ne_true
  refine call_meets PySem.F.slot_list_extend ⟨_, e, rfl⟩ PySem.F.entry_list_extend (PySem.F.args_list_extend_2 _ _)
    (list_extend_tup l its.toArray n b its2.toArray n2 dd sl hlong (by rw [List.size_toArray]; omega) (by omega)) ⟨e, ho, ?_⟩
  refine ⟨.non, _, I.lset (its' := its ++ its2) hH e (by simp) (r.append r2) ?_, rfl, q⟩
  rw [List.length_append]
  omega
/-- xs.extend(e), e a tuple -/
def zExtT (i : Nat) (t : TD) : TSd := fun D E => match E.ρ[i]? with | some (.own ds) => t E fun d n => (match d with | .tuple es => ds.length + es.length ≤ 100000 ∧ D.nx ⟨E.ρ.set i (.own (ds ++ es)), n⟩ | _ => False) | _ => False
theorem z_extT {i : Nat} {x : Str} {e : Expr} {t : TD} {pos p apos cpos : Pos} (h : PE X (.Name x p) (tVar i)) (he : PD X G e t) (hbase : attributeBase (.Name x p) "extend" X.env (eval (.Name x p) X.env) = eval (.Name x p) X.env := by rfl)
    (hfew : ((backTo cpos (starEach [e] X.env)).all (fun x => !x.1) && (backToKw cpos (keywordEach [] X.env)).all (fun x => x.1.isSome) && decide (([e] : List Expr).length + ([] : List Keyword).length + (if ([] : List Keyword).isEmpty then 0 else 1) < 30)) = true := by rfl)
    (hline : (apos.endLine == cpos.line) = true := by rfl) (hst : starEach [e] X.env = (false, eval e X.env) :: starEach [] X.env := by rfl) (hs : swapsWith (.Call (.Attribute (.Name x p) "extend" apos) [e] [] cpos) none pos.line X.env = pure false := by rfl) :
    PZ X G (.Expr (.Call (.Attribute (.Name x p) "extend" apos) [e] [] cpos) pos) (zExtT i t) :=
  PS.wk (ps_expr (pe_bm PySem.F.plainAttrs_list PySem.F.slot_list_extend PySem.F.type_list_extend mt_extT h (pa_cons he pa_nil hst) hbase hfew hline hst) hs) fun D σ H ⟨O, E, Dd, r, k, z⟩ => by
    unfold zExtT at z
    split at z
    · rename_i ds eo
      obtain ⟨a, vs, y1, y2, y3, y4, y5⟩ := r.own i ds eo
      refine ⟨_, y1, .inl ⟨rfl, _, sq_of y2⟩, O, E, _, r, ?_, z⟩
      rintro d n v H1 k1 i1 rv q1
      have r1 := r.step k1 i1
      obtain ⟨a', vs', w1, w2, w3, w4, w5⟩ := r1.own i ds eo
      rw [y1] at w1
      cases w1
      split at q1
      · obtain ⟨q0, q1⟩ := q1
        obtain ⟨b, us, rfl, h1, h2, h3⟩ := Dv.unT rv
        refine ⟨a, b, vs', us, rfl, rfl, w2, st_of h1, sz_of (by rw [w5.length, h3.length]; exact q0), ?_⟩
        obtain ⟨r2, L2⟩ := r1.mut eo y1 y3 y4 (w5.app h3)
        exact k.nx O _ _ _ ((r.lt k1).trans L2) r2 q1
      · exact q1.elim
    · exact z.elim
end
end Dl
/-! Counting shapes: tables. -/
namespace Sh
open PySem PySem.Spec PyProof.Rows L2 Gd Dl
def scan (p : Int) : List Int → List Int
  | [] => []
  | x :: r => (p + x) :: scan (p + x) r
def nextRow : List Int → List Int
  | _ :: b :: r => b :: scan b r
  | _ => []
def rowAt (n : Nat) : Nat → List Int
  | 0 => List.replicate (n + 1) 1
  | l + 1 => nextRow (rowAt n l)
def catT : List Int := [1, 1, 2, 5, 14, 42, 132, 429, 1430, 4862, 16796, 58786, 208012, 742900, 2674440, 9694845, 35357670, 129644790, 477638700, 1767263190, 6564120420, 24466267020, 91482563640, 343059613650, 1289904147324, 4861946401452, 18367353072152, 69533550916004, 263747951750360, 1002242216651368, 3814986502092304, 14544636039226909, 55534064877048198, 212336130412243110, 812944042149730764, 3116285494907301262, 11959798385860453492, 45950804324621742364, 176733862787006701400, 680425371729975800390, 2622127042276492108820, 10113918591637898134020, 39044429911904443959240, 150853479205085351660700, 583300119592996693088040, 2257117854077248073253720, 8740328711533173390046320, 33868773757191046886429490, 131327898242169365477991900, 509552245179617138054608572, 1978261657756160653623774456, 7684785670514316385230816156, 29869166945772625950142417512, 116157871455782434250553845880, 451959718027953471447609509424, 1759414616608818870992479875972, 6852456927844873497549658464312, 26700952856774851904245220912664, 104088460289122304033498318812080, 405944995127576985730643443367112, 1583850964596120042686772779038896]
def cat (n : Nat) : Int := en catT n
theorem scan_length : ∀ (p : Int) (l : List Int), (scan p l).length = l.length
  | _, [] => rfl
  | p, x :: r => by simp [scan, scan_length]
theorem nextRow_length {l : List Int} (h : 2 ≤ l.length) : (nextRow l).length = l.length - 1 := by
  match l, h with
  | a :: b :: r, _ => simp [nextRow, scan_length]
theorem rowAt_length (n : Nat) : ∀ l, l ≤ n → (rowAt n l).length = n + 1 - l
  | 0, _ => by simp [rowAt]
  | l + 1, h => by
    have i := rowAt_length n l (by omega)
    show (nextRow (rowAt n l)).length = _
    rw [nextRow_length (by omega), i]
    omega
theorem cnt_cat : ((List.range 61).all fun n => decide (n = 0 ∨ (rowAt n n)[0]? = some (cat n))) = true := by decide +kernel
theorem cat_conv : ((List.range 60).all fun m => decide (((List.range (m + 1)).map fun k => cat k * cat (m - k)).sum = cat (m + 1))) = true := by decide +kernel
theorem cat_big : ((List.range 61).all fun m => decide (0 ≤ cat m ∧ cat m < 10 ^ 40 ∧ (m ≤ 30 → cat m ≤ 2 ^ 62))) = true := by decide +kernel
theorem catT_length : catT.length = 61 := by decide +kernel
theorem cnt_cat' {n : Nat} (h : n ≤ 60) (h0 : 0 < n) : (rowAt n n)[0]? = some (cat n) := by
  have := List.all_eq_true.mp cnt_cat n (List.mem_range.mpr (by omega))
  rcases of_decide_eq_true this with z | z
  · omega
  · exact z
theorem cat_conv' {m : Nat} (h : m < 60) : ((List.range (m + 1)).map fun k => cat k * cat (m - k)).sum = cat (m + 1) := of_decide_eq_true (List.all_eq_true.mp cat_conv m (List.mem_range.mpr h))
theorem cat_big' {m : Nat} (h : m ≤ 60) : 0 ≤ cat m ∧ cat m < 10 ^ 40 ∧ (m ≤ 30 → cat m ≤ 2 ^ 62) := of_decide_eq_true (List.all_eq_true.mp cat_big m (List.mem_range.mpr (by omega)))
/-- the entries of the next row, one by one -/
theorem scan_take {p : Int} : ∀ {l : List Int} {i : Nat}, i < l.length → (scan p l).take (i + 1) = (scan p l).take i ++ [(if i = 0 then p else en (scan p l) (i - 1)) + en l i]
  | [], i, h => by simp at h
  | x :: r, 0, h => by simp [scan, en]
  | x :: r, i + 1, h => by
    have ih := scan_take (p := p + x) (l := r) (i := i) (by simpa using h)
    cases i with
    | zero =>
      simp only [scan, List.take_succ_cons, List.take_zero, List.nil_append, if_pos] at ih ⊢
      rw [ih]
      simp [en]
    | succ i =>
      rw [if_neg (by omega)] at ih ⊢
      simp only [scan, List.take_succ_cons, List.cons_append] at ih ⊢
      rw [ih]
      simp [en]
theorem nextRow_take {sh : List Int} {i : Nat} (h : i + 2 < sh.length) : (nextRow sh).take (i + 2) = (nextRow sh).take (i + 1) ++ [en ((nextRow sh).take (i + 1)) i + en sh (i + 2)] := by
  match sh, h with
  | a :: b :: r, h =>
    have hr : i < r.length := by simpa using h
    have := scan_take (p := b) hr
    simp only [nextRow, List.take_succ_cons, List.cons_append]
    rw [this]
    congr 3
    cases i with
    | zero => simp [en]
    | succ i =>
      rw [if_neg (by omega)]
      have : i < (scan b r).length := by rw [scan_length]; omega
      simp [en, List.getElem?_take, this]
/-- all shapes, each with its open places -/
def ext (p : Nat) (q : List Int × List Int) : List (List Int × List Int) := (q.1 ++ [0], [(p : Int)]) :: (List.range q.2.length).map fun j => (q.1 ++ [(p : Int) - en q.2 (q.2.length - 1 - j)], q.2.take (q.2.length - j) ++ [(p : Int)])
def allSh : Nat → List (List Int × List Int)
  | 0 => [([], [])]
  | p + 1 => (allSh p).flatMap (ext p)
theorem allSh_bd : ((List.range 8).all fun m => decide ((allSh m).length ≤ 1000) && (allSh m).all fun q => decide (q.1.length ≤ 7 ∧ q.2.length ≤ 7)) = true := by decide +kernel
theorem allSh_cat : ((List.range 8).all fun m => decide (((allSh m).length : Int) = cat m)) = true := by decide +kernel
theorem allSh_len {m : Nat} (h : m ≤ 7) : (allSh m).length ≤ 1000 := by
  have := List.all_eq_true.mp allSh_bd m (List.mem_range.mpr (by omega))
  rw [Bool.and_eq_true] at this
  exact of_decide_eq_true this.1
theorem allSh_q {m : Nat} (h : m ≤ 7) {q : List Int × List Int} (hq : q ∈ allSh m) : q.1.length ≤ 7 ∧ q.2.length ≤ 7 := by
  have := List.all_eq_true.mp allSh_bd m (List.mem_range.mpr (by omega))
  rw [Bool.and_eq_true] at this
  exact of_decide_eq_true (List.all_eq_true.mp this.2 q hq)
theorem allSh_cat' {m : Nat} (h : m ≤ 7) : ((allSh m).length : Int) = cat m := of_decide_eq_true (List.all_eq_true.mp allSh_cat m (List.mem_range.mpr (by omega)))
def enc (q : List Int × List Int) : PyData := .tuple [tupI q.1, tupI q.2]
end Sh
namespace Lw
open PySem PySem.Spec PyProof.Rows L2 Gd Dl Sh
local macro_rules | `(tactic| walk_at "go") => `(tactic| repeat (refine opt_of rfl ?_))
local macro_rules | `(tactic| walk_at "en") => `(tactic| dsimp only [dBor, dVar, setsD, List.set_cons_zero, List.set_cons_succ, List.getElem?_cons_zero, List.getElem?_cons_succ])
abbrev G_MAX_PLACES : Int := 12
def isW : PyData → Bool
  | .int _ => true
  | _ => false
def plcD (m : Int) : PyData → Bool
  | .int v => decide (0 ≤ v ∧ v < m)
  | _ => false
def winD (m : Int) : PyData → PyData → Bool
  | .int a, .int b => decide (0 ≤ a ∧ a ≤ b ∧ b < m)
  | _, _ => false
theorem winD_el {m : Int} {f l : PyData} (h : winD m f l = true) : ∃ (a k : Nat), f = .int a ∧ l = .int (a + k : Nat) ∧ ((a + k : Nat) : Int) < m := by
  unfold winD at h
  split at h
  · rename_i a b
    have := of_decide_eq_true h
    exact ⟨a.toNat, (b - a).toNat, by rw [Int.toNat_of_nonneg (by omega)], by congr 1; omega, by omega⟩
  · cases h
theorem winD_of {m : Int} {f l : PyData} (h1 : plcD m f = true) (h2 : plcD m l = true) : ∃ a b : Int, f = .int a ∧ l = .int b ∧ (0 ≤ a ∧ a < m) ∧ (0 ≤ b ∧ b < m) := by
  unfold plcD at h1 h2
  split at h1
  · split at h2
    · exact ⟨_, _, rfl, rfl, of_decide_eq_true h1, of_decide_eq_true h2⟩
    · cases h2
  · cases h1
theorem winD_no1 {m : Int} {f l : PyData} (h1 : plcD m f = false) : winD m f l = false := by
  unfold winD
  split
  · have := of_decide_eq_false (show decide _ = false from h1)
    exact decide_eq_false fun z => this ⟨z.1, by omega⟩
  · rfl
theorem winD_no2 {m : Int} {f l : PyData} (h1 : plcD m l = false) : winD m f l = false := by
  unfold winD
  split
  · have := of_decide_eq_false (show decide _ = false from h1)
    exact decide_eq_false fun z => this ⟨by omega, z.2.2⟩
  · rfl
def C_is_whole : Con := fun _ as n Q => ∃ d, as = [.d d] ∧ Q (.bool (isW d)) n
def C_is_place : Con := fun _ as n Q => ∃ (m : Int) (d : PyData), as = [.d (.int m), .d d] ∧ Q (.bool (plcD m d)) n
def C_is_window : Con := fun _ as n Q => ∃ (m : Int) (f l : PyData), as = [.d (.int m), .d f, .d l] ∧ Q (.bool (winD m f l)) n
def C_check_window : Con := fun _ as n Q => ∃ m f l : Int, as = [.d (.int m), .d (.int f), .d (.int l)] ∧ 0 ≤ f ∧ f ≤ l ∧ l < m ∧ Q .none n
def C_leads_out : Con := fun _ as n Q => ∃ (ns : List Int) (p f : Nat), as = [.d (tupI (shp ns)), .d (.int p), .d (.int f)] ∧ p < ns.length ∧ Q (.bool (lead ns p f)) n
def C_least_of : Con := fun _ as n Q => ∃ (ns : List Int) (f k : Nat) (l : Int), as = [.d (tupI (shp ns)), .d (.int f), .d (.int l)] ∧ l = (f + k : Nat) ∧ f + k < ns.length ∧ ns.length ≤ 60 ∧ Q (.int (best ns f k : Nat)) n
def C_window_tree (j : Nat) : Con := fun _ as n Q => ∃ (ns : List Int) (f s : Nat) (l : Int), as = [.d (tupI (shp ns)), .d (.int f), .d (.int l)] ∧ l = (f : Int) + (s : Nat) - 1 ∧ f + s ≤ ns.length ∧ ns.length ≤ 60 ∧ s < j ∧ Q (trD ns j f s) n
theorem no_window_tree {F : Fr} {as : List Ar} {n : Nat} {Q : PyData → Nat → Prop} (h : C_window_tree 0 F as n Q) : False := by
  obtain ⟨_, _, _, _, _, _, _, _, h, _⟩ := h
  omega
def C_tree_of : Con := fun _ as n Q => ∃ ns : List Int, as = [.d (tupI (shp ns))] ∧ ns.length ≤ 12 ∧ Q (trD ns 13 0 ns.length) n
section
variable {P : Program} {w : World} {K : PySem.W.Frag} {mg : Str → Option Value} {base : Heap}
abbrev s_is_whole : Stmt := topS 4
abbrev N_is_whole : List Str := ["value"]
theorem sc_is_whole : FnScope N_is_whole ["value"] (defScope s_is_whole) := ⟨rfl, rfl, rfl, by decide +kernel, rfl, by decide +kernel, by decide +kernel⟩
-- slots: 0 value
theorem ok_is_whole {f : Addr} {fd : FuncData} {k : Nat}  (F : Fun K "is_whole" "is_whole" s_is_whole f fd) (m_bool : mg "bool" = none) (m_int : mg "int" = none) (m_isinstance : mg "isinstance" = none) : FnOk P w K mg base CX0 (k + 1) f fd ["value"] (spD C_is_whole 1) := by
  refine okD F sc_is_whole (fun G cdv A fr s H E hr =>
        (zs_one (z_ret (PB.of (pd_and (pd_isi_int (pb_var (pv 0)) m_isinstance m_int) (pd_one (pd_not (pd_isi_bool (pb_var (pv 0)) m_isinstance m_bool)))))))) (fun G as n Q hl hc => ?_)
  obtain ⟨d, rfl, q⟩ := hc
  cases d <;> (walk_at "go"; exact q)
abbrev s_is_place : Stmt := topS 5
abbrev N_is_place : List Str := ["many", "value"]
theorem sc_is_place : FnScope N_is_place ["many", "value"] (defScope s_is_place) := ⟨rfl, rfl, rfl, by decide +kernel, rfl, by decide +kernel, by decide +kernel⟩
-- slots: 0 many, 1 value
theorem ok_is_place {f : Addr} {fd : FuncData} {k : Nat} {f_is_whole : Addr} {d_is_whole : FuncData} (F : Fun K "is_place" "is_place" s_is_place f fd) (c_is_whole : Cd P w K mg base k "is_whole" f_is_whole d_is_whole ["value"] C_is_whole) : FnOk P w K mg base CX0 (k + 1) f fd ["many", "value"] (spD C_is_place 2) := by
  refine okD F sc_is_place (fun G cdv A fr s H E hr =>
        (zs_one (z_ret (PB.of (pd_and (pd_call c_is_whole.G hr c_is_whole.g c_is_whole.kp c_is_whole.b (pr_cons (pd_var (pv 1)) pr_nil)) (pd_one (pd_chain op_le op_lt l_le l_lt (PB.of pd_int) (pb_var (pv 1)) (pb_var (pv 0))))))))) (fun G as n Q hl hc => ?_)
  obtain ⟨m, d, rfl, q⟩ := hc
  walk_at "go"
  walk_at "go"; refine And.intro rfl ⟨d, rfl, ?_⟩
  cases d with
  | int v =>
    walk_at "go"
    dsimp only [isW]
    by_cases h0 : 0 ≤ v
    · rw [decide_eq_true h0]
      walk_at "go"
      have : decide (v < m) = plcD m (.int v) := decide_eq_decide.mpr ⟨fun h => ⟨h0, h⟩, fun h => h.2⟩
      rw [← this] at q
      walk_at "go"; exact q
    · rw [decide_eq_false h0]
      have : plcD m (.int v) = false := decide_eq_false fun h => h0 h.1
      rw [this] at q
      walk_at "go"; exact q
  | _ => exact q
abbrev s_is_window : Stmt := topS 6
abbrev N_is_window : List Str := ["many", "first", "last"]
theorem sc_is_window : FnScope N_is_window ["many", "first", "last"] (defScope s_is_window) := ⟨rfl, rfl, rfl, by decide +kernel, rfl, by decide +kernel, by decide +kernel⟩
-- slots: 0 many, 1 first, 2 last
theorem ok_is_window {f : Addr} {fd : FuncData} {k : Nat} {f_is_place : Addr} {d_is_place : FuncData} (F : Fun K "is_window" "is_window" s_is_window f fd) (c_is_place : Cd P w K mg base k "is_place" f_is_place d_is_place ["many", "value"] C_is_place) : FnOk P w K mg base CX0 (k + 1) f fd ["many", "first", "last"] (spD C_is_window 3) := by
  refine okD F sc_is_window (fun G cdv A fr s H E hr =>
        (zs_one (z_ret (PB.of (pd_and (pd_call c_is_place.G hr c_is_place.g c_is_place.kp c_is_place.b (pr_cons (pd_var (pv 0)) (pr_cons (pd_var (pv 1)) pr_nil))) (pd_and (pd_call c_is_place.G hr c_is_place.g c_is_place.kp c_is_place.b (pr_cons (pd_var (pv 0)) (pr_cons (pd_var (pv 2)) pr_nil))) (pd_one (pd_cmp op_le l_le (pb_var (pv 1)) (pb_var (pv 2)) (nomark _))))))))) (fun G as n Q hl hc => ?_)
  obtain ⟨m, f, l, rfl, q⟩ := hc
  walk_at "go"
  walk_at "go"; refine And.intro rfl ⟨m, f, rfl, ?_⟩
  cases e1 : plcD m f with
  | false =>
    rw [winD_no1 e1] at q
    walk_at "go"; exact q
  | true =>
    walk_at "go"
    walk_at "go"; refine And.intro rfl ⟨m, l, rfl, ?_⟩
    cases e2 : plcD m l with
    | false =>
      rw [winD_no2 e2] at q
      walk_at "go"; exact q
    | true =>
      obtain ⟨a, b, rfl, rfl, ha, hb⟩ := winD_of e1 e2
      walk_at "go"
      have : decide (a ≤ b) = winD m (.int a) (.int b) := decide_eq_decide.mpr ⟨fun h => ⟨ha.1, h, hb.2⟩, fun h => h.2.1⟩
      rw [← this] at q
      walk_at "go"; exact q
abbrev s_check_window : Stmt := topS 7
abbrev N_check_window : List Str := ["many", "first", "last"]
theorem sc_check_window : FnScope N_check_window ["many", "first", "last"] (defScope s_check_window) := ⟨rfl, rfl, rfl, by decide +kernel, rfl, by decide +kernel, by decide +kernel⟩
-- slots: 0 many, 1 first, 2 last
theorem ok_check_window {f : Addr} {fd : FuncData} {k : Nat} {f_is_window : Addr} {d_is_window : FuncData} (F : Fun K "check_window" "check_window" s_check_window f fd) (c_is_window : Cd P w K mg base k "is_window" f_is_window d_is_window ["many", "first", "last"] C_is_window) : FnOk P w K mg base CX0 (k + 1) f fd ["many", "first", "last"] (spD C_check_window 3) := by
  refine okD F sc_check_window (fun G cdv A fr s H E hr =>
        (zs_one (z_if (pq_not (pq_val (pd_call c_is_window.G hr c_is_window.g c_is_window.kp c_is_window.b (pr_cons (pd_var (pv 0)) (pr_cons (pd_var (pv 1)) (pr_cons (pd_var (pv 2)) pr_nil))))))
          (zs_one z_never)
          zs_nil))) (fun G as n Q hl hc => ?_)
  obtain ⟨m, f, l, rfl, h0, h1, h2, q⟩ := hc
  walk_at "go"; try dsimp only [List.set_cons_zero, List.set_cons_succ]
  walk_at "go"; refine And.intro rfl ⟨m, .int f, .int l, rfl, ?_⟩
  rw [show winD m (.int f) (.int l) = true from decide_eq_true ⟨by omega, by omega, by omega⟩]
  walk_at "go"; exact q
abbrev s_leads_out : Stmt := topS 12
abbrev N_leads_out : List Str := ["shape", "place", "first"]
theorem sc_leads_out : FnScope N_leads_out ["shape", "place", "first"] (defScope s_leads_out) := ⟨rfl, rfl, rfl, by decide +kernel, rfl, by decide +kernel, by decide +kernel⟩
-- slots: 0 shape, 1 place, 2 first
theorem ok_leads_out {f : Addr} {fd : FuncData} {k : Nat}  (F : Fun K "leads_out" "leads_out" s_leads_out f fd)  : FnOk P w K mg base CX0 (k + 1) f fd ["shape", "place", "first"] (spD C_leads_out 3) := by
  refine okD F sc_leads_out (fun G cdv A fr s H E hr =>
        (zs_one (z_ret (PB.of (pd_or (pd_cmp (op_eqX hr.units) l_eq (PB.of (pd_ix (pb_var (pv 0)) (pb_var (pv 1)) (fun _ _ => rfl))) (PB.of pd_int) (nomark _)) (pd_one (pd_cmp op_lt l_lt (PB.of (pd_sub (pb_var (pv 1)) (PB.of (pd_ix (pb_var (pv 0)) (pb_var (pv 1)) (fun _ _ => rfl))))) (pb_var (pv 2)) (nomark _)))))))) (fun G as n Q hl hc => ?_)
  obtain ⟨ns, p, f, rfl, hp, q⟩ := hc
  have hp' : p < (shp ns).length := by rw [shp_length]; exact hp
  walk_at "go"; refine opt_of (ix_row (i := p) rfl hp') ?_
  walk_at "go"; refine opt_of (eq_int) ?_
  rw [en_shp hp]
  by_cases z : dist ns p = 0
  · rw [decide_eq_true (by omega : ((dist ns p : Nat) : Int) = 0)]
    have : lead ns p f = true := by unfold lead; rw [decide_eq_true z, Bool.true_or]
    rw [this] at q
    walk_at "go"; exact q
  · rw [decide_eq_false (by omega : ¬ ((dist ns p : Nat) : Int) = 0)]
    walk_at "go"; refine opt_of (ix_row (i := p) rfl hp') ?_
    rw [en_shp hp]
    have : lead ns p f = decide ((p : Int) - (dist ns p : Nat) < f) := by unfold lead; rw [decide_eq_false z, Bool.false_or]
    rw [this] at q
    walk_at "go"; exact q
abbrev s_least_of : Stmt := topS 13
abbrev N_least_of : List Str := ["shape", "first", "last", "least", "place"]
theorem sc_least_of : FnScope N_least_of ["shape", "first", "last"] (defScope s_least_of) := ⟨rfl, rfl, rfl, by decide +kernel, rfl, by decide +kernel, by decide +kernel⟩
-- slots: 0 shape, 1 first, 2 last, 3 least, 4 place
theorem ok_least_of {f : Addr} {fd : FuncData} {k : Nat} {f_leads_out : Addr} {d_leads_out : FuncData} {f_check_window : Addr} {d_check_window : FuncData} (F : Fun K "least_of" "least_of" s_least_of f fd) (c_leads_out : Cd P w K mg base k "leads_out" f_leads_out d_leads_out ["shape", "place", "first"] C_leads_out) (c_check_window : Cd P w K mg base k "check_window" f_check_window d_check_window ["many", "first", "last"] C_check_window) (m_len : mg "len" = none) (m_range : mg "range" = none) : FnOk P w K mg base CX0 (k + 1) f fd ["shape", "first", "last"] (spD C_least_of 3) := by
  refine okD F sc_least_of (fun G cdv A fr s H E hr =>
        (zs_cons (z_drop (pd_call c_check_window.G hr c_check_window.g c_check_window.kp c_check_window.b (pr_cons (pd_len (pb_var (pv 0)) m_len) (pr_cons (pd_var (pv 1)) (pr_cons (pd_var (pv 2)) pr_nil)))))
        (zs_cons (z_set (i := 3) sc_least_of.nd rfl (by first | exact .inl rfl | exact .inr rfl) (pd_var (pv 1)))
        (zs_cons (z_for (tg := (.nm 4)) PassesOwn.never rfl (j_range2 (pd_var (pv 1)) (pd_add (pb_var (pv 2)) (PB.of pd_int)) m_range) (pg_name (i := 4) sc_least_of.nd rfl (by first | exact .inl rfl | exact .inr rfl))
          (zs_one (z_if (pq_val (pd_call c_leads_out.G hr c_leads_out.g c_leads_out.kp c_leads_out.b (pr_cons (pd_var (pv 0)) (pr_cons (pd_var (pv 4)) (pr_cons (pd_var (pv 1)) pr_nil)))))
            (zs_one (z_set (i := 3) sc_least_of.nd rfl (by first | exact .inl rfl | exact .inr rfl) (pd_var (pv 4))))
            zs_nil)))
        (zs_one (z_ret (pb_var (pv 3)))))))) (fun G as n Q hl hc => ?_)
  obtain ⟨ns, f, k', l, rfl, rfl, hk, h60, q⟩ := hc
  walk_at "go"
  walk_at "go"; refine And.intro rfl ⟨_, _, _, rfl, by omega, by omega, by rw [List.length_map, shp_length]; omega, ?_⟩
  walk_at "go"; refine And.intro (dec2 (by omega)) ?_
  have eN : (((f + k' : Nat) : Int) + 1 - (f : Nat)).toNat = k' + 1 := by omega
  walk_at "go"; refine for_R _ _ (fun i E => ∃ y4, E = ⟨[.dat (tupI (shp ns)), .dat (.int (f : Nat)), .dat (.int (f + k' : Nat)), .dat (.int (best ns f (i - 1) : Nat)), y4], n⟩) ⟨_, rfl⟩ (fun i E D' hi h nx ct bk rt => ?_) (fun E h => ?_)
  · obtain ⟨y4, rfl⟩ := h
    rw [eN] at hi
    walk_at "go"
    walk_at "go"; refine And.intro rfl ⟨ns, f + i, f, ?_, by omega, ?_⟩
    · have : ((f : Nat) : Int) + (i : Nat) = ((f + i : Nat) : Int) := by omega
      show [Ar.d (tupI (shp ns)), Ar.d (.int ((f : Nat) + (i : Nat))), Ar.d (.int (f : Nat))] = _
      rw [this]
    walk_at "go"; refine ifT (fun h => ?_) (fun h => ?_)
    · have eb : ((f : Nat) : Int) + (i : Nat) = ((best ns f (i + 1 - 1) : Nat) : Int) := by
        rw [Nat.add_sub_cancel]
        cases i with
        | zero => rfl
        | succ i =>
          rw [show f + (i + 1) = f + i + 1 from rfl, lead_best] at h
          unfold best
          rw [if_pos (of_decide_eq_true h)]
          try omega
      rw [← eb] at nx
      walk_at "go"; exact nx _ ⟨_, rfl⟩
    · have eb : best ns f (i + 1 - 1) = best ns f (i - 1) := by
        rw [Nat.add_sub_cancel]
        cases i with
        | zero =>
          rw [Nat.add_zero, lead_first] at h
          try exact Bool.noConfusion h
        | succ i =>
          rw [show f + (i + 1) = f + i + 1 from rfl, lead_best] at h
          rw [Nat.add_sub_cancel]
          conv => lhs; unfold best
          rw [if_neg (of_decide_eq_false h)]
      rw [eb] at nx
      walk_at "go"; exact nx _ ⟨_, rfl⟩
  · obtain ⟨y4, rfl⟩ := h
    rw [eN, Nat.add_sub_cancel]
    walk_at "go"; exact q
abbrev s_window_tree : Stmt := topS 16
abbrev N_window_tree : List Str := ["shape", "first", "last", "root"]
theorem sc_window_tree : FnScope N_window_tree ["shape", "first", "last"] (defScope s_window_tree) := ⟨rfl, rfl, rfl, by decide +kernel, rfl, by decide +kernel, by decide +kernel⟩
-- slots: 0 shape, 1 first, 2 last, 3 root
theorem ok_window_tree {f : Addr} {fd : FuncData} {k j : Nat} {f_least_of : Addr} {d_least_of : FuncData} (F : Fun K "window_tree" "window_tree" s_window_tree f fd) (c_window_tree : Cd P w K mg base k "window_tree" f fd ["shape", "first", "last"] (C_window_tree j)) (c_least_of : Cd P w K mg base k "least_of" f_least_of d_least_of ["shape", "first", "last"] C_least_of) : FnOk P w K mg base CX0 (k + 1) f fd ["shape", "first", "last"] (spD (C_window_tree (j + 1)) 3) := by
  refine okD F sc_window_tree (fun G cdv A fr s H E hr =>
        (zs_cons (z_if (pq_cmp op_gt l_gt (pb_var (pv 1)) (pb_var (pv 2)) (nomark _))
          (zs_one (z_ret (PB.of (pd_tup pr_nil))))
          zs_nil)
        (zs_cons (z_set (i := 3) sc_window_tree.nd rfl (by first | exact .inl rfl | exact .inr rfl) (pd_call c_least_of.G hr c_least_of.g c_least_of.kp c_least_of.b (pr_cons (pd_var (pv 0)) (pr_cons (pd_var (pv 1)) (pr_cons (pd_var (pv 2)) pr_nil)))))
        (zs_one (z_ret (PB.of (pd_tup (pr_cons (pd_call c_window_tree.G hr c_window_tree.g c_window_tree.kp c_window_tree.b (pr_cons (pd_var (pv 0)) (pr_cons (pd_var (pv 1)) (pr_cons (pd_sub (pb_var (pv 3)) (PB.of pd_int)) pr_nil)))) (pr_cons (pd_call c_window_tree.G hr c_window_tree.g c_window_tree.kp c_window_tree.b (pr_cons (pd_var (pv 0)) (pr_cons (pd_add (pb_var (pv 3)) (PB.of pd_int)) (pr_cons (pd_var (pv 2)) pr_nil)))) pr_nil))))))))) (fun G as n Q hl hc => ?_)
  obtain ⟨ns, f, s', l, rfl, hl', hs, h60, hj, q⟩ := hc
  walk_at "go"
  walk_at "go"; refine ifT (fun h => ?_) (fun h => ?_)
  · have h' := of_decide_eq_true h
    have e0 : s' = 0 := by omega
    subst e0
    walk_at "go"; refine And.intro (rfl) ?_
    unfold trD at q
    walk_at "go"; exact q
  · have h' := of_decide_eq_false h
    have bb := best_bd ns f (s' - 1)
    walk_at "go"
    walk_at "go"; refine And.intro rfl ⟨ns, f, s' - 1, l, rfl, by omega, by omega, h60, ?_⟩
    walk_at "go"
    walk_at "go"; refine And.intro rfl ⟨ns, f, best ns f (s' - 1) - f, _, rfl, by omega, by omega, h60, by omega, ?_⟩
    walk_at "go"
    walk_at "go"; refine And.intro rfl ⟨ns, best ns f (s' - 1) + 1, f + s' - 1 - best ns f (s' - 1), _, rfl, by omega, by omega, h60, by omega, ?_⟩
    walk_at "go"; refine And.intro (rfl) ?_
    unfold trD at q
    rw [if_neg (by omega : ¬ s' = 0)] at q
    rw [trD_fuel ns j s' f _ (by omega) (by omega), trD_fuel ns j s' _ _ (by omega) (by omega)]
    rw [trD_fuel ns j s' f _ (by omega) (by omega), trD_fuel ns j s' _ _ (by omega) (by omega)] at q
    walk_at "go"; exact q
theorem rec_window_tree {f : Addr} {fd : FuncData} {k : Nat} {f_least_of : Addr} {d_least_of : FuncData} (F : Fun K "window_tree" "window_tree" s_window_tree f fd) (c_least_of : Cd P w K mg base k "least_of" f_least_of d_least_of ["shape", "first", "last"] C_least_of) (kp : PySem.W.keepIn K (.ref f) = true) (b : Binds K fd ["shape", "first", "last"] []) (g : mg "window_tree" = some (.ref f)) : ∀ j, FnOk P w K mg base CX0 (k + 1 + j) f fd ["shape", "first", "last"] (spD (C_window_tree j) 3)
  | 0 => fn_false rfl fun F as n Q h => no_window_tree h
  | j + 1 => ok_window_tree (k := k + 1 + j) F ⟨rec_window_tree F c_least_of kp b g j, kp, b, g⟩ (c_least_of.mono (by omega))
abbrev s_tree_of : Stmt := topS 17
abbrev N_tree_of : List Str := ["shape"]
theorem sc_tree_of : FnScope N_tree_of ["shape"] (defScope s_tree_of) := ⟨rfl, rfl, rfl, by decide +kernel, rfl, by decide +kernel, by decide +kernel⟩
-- slots: 0 shape
theorem ok_tree_of {f : Addr} {fd : FuncData} {k : Nat} {f_window_tree : Addr} {d_window_tree : FuncData} (F : Fun K "tree_of" "tree_of" s_tree_of f fd) (c_window_tree : Cd P w K mg base k "window_tree" f_window_tree d_window_tree ["shape", "first", "last"] (C_window_tree 13)) (m_len : mg "len" = none) : FnOk P w K mg base CX0 (k + 1) f fd ["shape"] (spD C_tree_of 1) := by
  refine okD F sc_tree_of (fun G cdv A fr s H E hr =>
        (zs_one (z_ret (PB.of (pd_call c_window_tree.G hr c_window_tree.g c_window_tree.kp c_window_tree.b (pr_cons (pd_var (pv 0)) (pr_cons pd_int (pr_cons (pd_sub (PB.of (pd_len (pb_var (pv 0)) m_len)) (PB.of pd_int)) pr_nil)))))))) (fun G as n Q hl hc => ?_)
  obtain ⟨ns, rfl, h12, q⟩ := hc
  walk_at "go"
  walk_at "go"; refine And.intro rfl ⟨ns, 0, ns.length, _, rfl, by rw [List.length_map, shp_length]; omega, by omega, by omega, by omega, ?_⟩
  walk_at "go"; exact q
end
end Lw
namespace Lw
open PySem PySem.Spec PyProof.Rows L2 Gd Dl Sh
local macro_rules | `(tactic| walk_at "go") => `(tactic| repeat (refine opt_of rfl ?_))
local macro_rules | `(tactic| walk_at "en") => `(tactic| dsimp only [dBor, dVar, setsD, List.set_cons_zero, List.set_cons_succ, List.getElem?_cons_zero, List.getElem?_cons_succ])
theorem ix_tupD {ds : List PyData} {i : Nat} {x : Int} (e : x = (i : Nat)) (h : i < ds.length) : gIx (.tuple ds) (.int x) = some (ds.getD i .none) := by
  subst e
  show atI ds (i : Int) = _
  unfold atI
  rw [ixN_nat rfl h]
  show ds[i]? = _
  rw [List.getD_eq_getElem?_getD, List.getElem?_eq_getElem h]
  rfl
def iv : PyData → Int
  | .int v => v
  | _ => 0
def ev (ds : List PyData) (j : Nat) : Int := iv (ds.getD j .none)
/-- the open places from s on downwards -/
def chn (e : Nat → Int) : Nat → Nat → List Nat
  | 0, s => [s]
  | f + 1, s => s :: if 0 < e s then chn e f (s - (e s).toNat) else []
def okB (ds : List PyData) (p : Nat) : Bool := match ds.getD p .none with
  | .int v => decide (0 ≤ v) && (decide (v = 0) || (decide (0 < p) && (chn (ev ds) p (p - 1)).any fun t => decide (v = (p : Int) - (t : Nat))))
  | _ => false
def isShB (m : Nat) : PyData → Bool
  | .tuple ds => decide (1 ≤ ds.length) && decide (ds.length ≤ m) && (List.range ds.length).all (okB ds)
  | _ => false
def dsL (ds : List PyData) (p : Nat) : List Int := 0 :: if 0 < p then (chn (ev ds) p (p - 1)).map fun t => (p : Int) - (t : Nat) else []
theorem chn_le {e : Nat → Int} : ∀ {f s x : Nat}, x ∈ chn e f s → x ≤ s
  | 0, s, x, h => by rw [chn, List.mem_singleton] at h; omega
  | f + 1, s, x, h => by
    rw [chn, List.mem_cons] at h
    rcases h with rfl | h
    · exact Nat.le_refl _
    · split at h
      · have := chn_le h
        omega
      · cases h
theorem chn_head {e : Nat → Int} {f s : Nat} : s ∈ chn e f s := by cases f <;> simp [chn]
theorem chn_len {e : Nat → Int} : ∀ {f s : Nat}, (chn e f s).length ≤ f + 1
  | 0, s => by simp [chn]
  | f + 1, s => by
    rw [chn, List.length_cons]
    split
    · have := chn_len (e := e) (f := f) (s := s - (e s).toNat)
      omega
    · simp
theorem chn_stop {e : Nat → Int} {f s : Nat} (h : ¬ 0 < e s) : chn e f s = [s] := by
  cases f with
  | zero => rfl
  | succ f => rw [chn, if_neg h]
theorem okB_el {ds : List PyData} {j : Nat} (h : okB ds j = true) : j < ds.length ∧ ds.getD j .none = .int (ev ds j) ∧ 0 ≤ ev ds j ∧ ev ds j ≤ j := by
  unfold okB at h
  split at h
  · rename_i v e
    have e2 : ev ds j = v := by unfold ev; rw [e]; rfl
    simp only [Bool.and_eq_true, Bool.or_eq_true, decide_eq_true_eq, List.any_eq_true] at h
    obtain ⟨h0, h1⟩ := h
    refine ⟨?_, by rw [e2, e], by omega, ?_⟩
    · refine Classical.byContradiction fun n => ?_
      rw [List.getD_eq_getElem?_getD, List.getElem?_eq_none (by omega)] at e
      cases e
    · rcases h1 with h1 | ⟨h1, t, ht, h2⟩ <;> omega
  · cases h
theorem okB_iff {ds : List PyData} {p : Nat} {v : Int} (e : ds.getD p .none = .int v) : okB ds p = decide (v ∈ dsL ds p ∧ 0 ≤ v) := by
  unfold okB dsL
  rw [e]
  show (decide (0 ≤ v) && _) = _
  by_cases h0 : 0 ≤ v
  · rw [decide_eq_true h0, Bool.true_and]
    by_cases hp : 0 < p
    · rw [decide_eq_true hp, if_pos hp, Bool.true_and, Bool.eq_iff_iff]
      simp only [Bool.or_eq_true, decide_eq_true_eq, List.any_eq_true, List.mem_cons, List.mem_map]
      constructor
      · rintro (h | ⟨t, ht, h⟩)
        · exact ⟨.inl h, h0⟩
        · exact ⟨.inr ⟨t, ht, h.symm⟩, h0⟩
      · rintro ⟨h | ⟨t, ht, h⟩, _⟩
        · exact .inl h
        · exact .inr ⟨t, ht, h.symm⟩
    · rw [decide_eq_false hp, if_neg hp, Bool.false_and, Bool.or_false, Bool.eq_iff_iff]
      simp only [decide_eq_true_eq, List.mem_singleton]
      exact ⟨fun h => ⟨h, h0⟩, fun h => h.1⟩
  · rw [decide_eq_false h0, Bool.false_and, Bool.eq_iff_iff]
    simp only [decide_eq_true_eq]
    exact ⟨fun h => (by cases h), fun h => absurd h.2 h0⟩
theorem dsL_nn {ds : List PyData} {p : Nat} {v : Int} (h : v ∈ dsL ds p) : 0 ≤ v ∧ v ≤ p := by
  unfold dsL at h
  rcases List.mem_cons.mp h with rfl | h
  · omega
  · split at h
    · obtain ⟨t, ht, rfl⟩ := List.mem_map.mp h
      have := chn_le ht
      omega
    · cases h
theorem isSh_no {m : Nat} {ds : List PyData} {p : Nat} (hp : p < ds.length) (h : okB ds p = false) : isShB m (.tuple ds) = false := by
  show (decide (1 ≤ ds.length) && decide (ds.length ≤ m) && (List.range ds.length).all (okB ds)) = false
  rw [Bool.and_eq_false_iff]
  right
  rw [List.all_eq_false]
  exact ⟨p, List.mem_range.mpr hp, by rw [h]; decide⟩
theorem isSh_yes {m : Nat} {ds : List PyData} (h1 : 1 ≤ ds.length) (h2 : ds.length ≤ m) (h : ∀ j, j < ds.length → okB ds j = true) : isShB m (.tuple ds) = true := by
  show (decide (1 ≤ ds.length) && decide (ds.length ≤ m) && (List.range ds.length).all (okB ds)) = true
  rw [decide_eq_true h1, decide_eq_true h2]
  simpa using h
theorem isSh_len {m : Nat} {ds : List PyData} (h : ¬ (1 ≤ ds.length ∧ ds.length ≤ m)) : isShB m (.tuple ds) = false := by
  show (decide (1 ≤ ds.length) && decide (ds.length ≤ m) && (List.range ds.length).all (okB ds)) = false
  rw [Bool.and_eq_false_iff]
  left
  rw [← Bool.decide_and, decide_eq_false h]
def C_distances_at : Con := fun _ as n Q => ∃ (ds : List PyData) (p : Nat), as = [.d (.tuple ds), .d (.int p)] ∧ p ≤ ds.length ∧ p ≤ 60 ∧ (∀ j, j < p → okB ds j = true) ∧ Q (lstI (dsL ds p)) n
def C_is_shape_up_to : Con := fun _ as n Q => ∃ (m : Nat) (d : PyData), as = [.d (.int m), .d d] ∧ m ≤ 60 ∧ Q (.bool (isShB m d)) n
def C_is_shape : Con := fun _ as n Q => ∃ d : PyData, as = [.d d] ∧ Q (.bool (isShB 12 d)) n
section
variable {P : Program} {w : World} {K : PySem.W.Frag} {mg : Str → Option Value} {base : Heap}
abbrev s_distances_at : Stmt := topS 9
abbrev N_distances_at : List Str := ["shape", "place", "found", "distance"]
theorem sc_distances_at : FnScope N_distances_at ["shape", "place"] (defScope s_distances_at) := ⟨rfl, rfl, rfl, by decide +kernel, rfl, by decide +kernel, by decide +kernel⟩
-- slots: 0 shape, 1 place, 2 found, 3 distance
theorem ok_distances_at {f : Addr} {fd : FuncData} {k : Nat}  (F : Fun K "distances_at" "distances_at" s_distances_at f fd)  : FnOk P w K mg base CX0 (k + 1) f fd ["shape", "place"] (spD C_distances_at 2) := by
  refine okD F sc_distances_at (fun G cdv A fr s H E hr =>
        (zs_cons (z_own (i := 2) sc_distances_at.nd rfl (by first | exact .inl rfl | exact .inr rfl) (pl_lst (pr_cons pd_int pr_nil)))
        (zs_cons (z_if (pq_cmp op_gt l_gt (pb_var (pv 1)) (PB.of pd_int) (nomark _))
          (zs_cons (z_set (i := 3) sc_distances_at.nd rfl (by first | exact .inl rfl | exact .inr rfl) pd_int)
          (zs_cons (z_app (pv 2) (pd_var (pv 3)))
          (zs_one (z_while PassesOwn.never (pq_cmp op_gt l_gt (PB.of (pd_ix (pb_var (pv 0)) (PB.of (pd_sub (pb_var (pv 1)) (pb_var (pv 3)))) (fun _ _ => rfl))) (PB.of pd_int) (nomark _))
            (zs_cons (z_aug (i := 3) sc_distances_at.nd rfl (by first | exact .inl rfl | exact .inr rfl) (pd_ix (pb_var (pv 0)) (PB.of (pd_sub (pb_var (pv 1)) (pb_var (pv 3)))) (fun _ _ => rfl)) ip_add)
            (zs_one (z_app (pv 2) (pd_var (pv 3)))))))))
          zs_nil)
        (zs_one (z_ret (pb_var (pv 2))))))) (fun G as n Q hl hc => ?_)
  obtain ⟨ds, p, rfl, hp, h60, hok, q⟩ := hc
  walk_at "go"; refine And.intro (rfl) ?_
  walk_at "go"; try dsimp only [List.set_cons_zero, List.set_cons_succ]
  by_cases p0 : 0 < p
  · rw [decide_eq_true (by omega : (0 : Int) < (p : Nat))]
    walk_at "go"
    refine ⟨by decide, ?_⟩
    walk_at "go"
    refine ⟨fun m E => ∃ (f : Nat) (done : List Nat), m ≤ f ∧ m < p ∧ chn (ev ds) p (p - 1) = done ++ chn (ev ds) f m ∧ E = ⟨[.dat (.tuple ds), .dat (.int p), .own ((0 :: (done ++ [m]).map fun q : Nat => (p : Int) - (q : Nat)).map dI), .dat (.int ((p : Int) - (m : Nat)))], n⟩, ⟨p - 1, p, [], by omega, by omega, rfl, ?_⟩, ?_⟩
    · show _ = (⟨[.dat (.tuple ds), .dat (.int p), .own [.int 0, .int ((p : Int) - ((p - 1 : Nat) : Int))], .dat (.int ((p : Int) - ((p - 1 : Nat) : Int)))], n⟩ : En)
      rw [show (p : Int) - ((p - 1 : Nat) : Int) = 1 by omega]
      rfl
    rintro t E ⟨f, done, tf, ht, hd, rfl⟩
    have et : ((p : Nat) : Int) - ((p : Int) - (t : Nat)) = (t : Nat) := by omega
    obtain ⟨l1, l2, l3, l4⟩ := okB_el (hok t ht)
    walk_at "go"; refine opt_of (ix_tupD (ds := ds) (i := t) et (by omega)) ?_
    rw [l2]
    walk_at "go"; try dsimp only [List.set_cons_zero, List.set_cons_succ]
    by_cases z : 0 < ev ds t
    · rw [decide_eq_true z]
      walk_at "go"; refine opt_of (ix_tupD (ds := ds) (i := t) et (by omega)) ?_
      rw [l2]
      walk_at "go"
      obtain ⟨f, rfl⟩ : ∃ g, f = g + 1 := ⟨f - 1, by omega⟩
      rw [chn, if_pos z] at hd
      have ln : done.length < 100 := by
        have := chn_len (e := ev ds) (f := p) (s := p - 1)
        rw [hd] at this
        simp at this
        omega
      refine ⟨by simp; omega, t - (ev ds t).toNat, by omega, f, done ++ [t], by omega, by omega, by rw [hd]; simp, ?_⟩
      have e1 : ((p : Int) - (t : Nat)) + ev ds t = (p : Int) - ((t - (ev ds t).toNat : Nat) : Int) := by omega
      dsimp only [List.set_cons_zero, List.set_cons_succ]
      rw [e1]
      simp [List.map_append]
    · rw [decide_eq_false z]
      rw [chn_stop z] at hd
      walk_at "go"
      unfold dsL at q
      rw [if_pos p0, hd] at q
      walk_at "go"; exact q
  · rw [decide_eq_false (by omega : ¬ (0 : Int) < (p : Nat))]
    unfold dsL at q
    rw [if_neg p0] at q
    walk_at "go"; exact q
abbrev s_is_shape_up_to : Stmt := topS 10
abbrev N_is_shape_up_to : List Str := ["most", "value", "place", "item"]
theorem sc_is_shape_up_to : FnScope N_is_shape_up_to ["most", "value"] (defScope s_is_shape_up_to) := ⟨rfl, rfl, rfl, by decide +kernel, rfl, by decide +kernel, by decide +kernel⟩
-- slots: 0 most, 1 value, 2 place, 3 item
theorem ok_is_shape_up_to {f : Addr} {fd : FuncData} {k : Nat} {f_distances_at : Addr} {d_distances_at : FuncData} {f_is_whole : Addr} {d_is_whole : FuncData} (F : Fun K "is_shape_up_to" "is_shape_up_to" s_is_shape_up_to f fd) (c_distances_at : Cd P w K mg base k "distances_at" f_distances_at d_distances_at ["shape", "place"] C_distances_at) (c_is_whole : Cd P w K mg base k "is_whole" f_is_whole d_is_whole ["value"] C_is_whole) (m_enumerate : mg "enumerate" = none) (m_isinstance : mg "isinstance" = none) (m_len : mg "len" = none) (m_tuple : mg "tuple" = none) : FnOk P w K mg base CX0 (k + 1) f fd ["most", "value"] (spD C_is_shape_up_to 2) := by
  refine okD F sc_is_shape_up_to (fun G cdv A fr s H E hr =>
        (zs_cons (z_if (PW.pt (w_or (pq_not (pq_val (pd_isi_tuple (pb_var (pv 1)) m_isinstance m_tuple))) (w_or1 (pq_not (pq_chain op_le op_le l_le l_le (PB.of pd_int) (PB.of (pd_len (pb_var (pv 1)) m_len)) (pb_var (pv 0)))))))
          (zs_one (z_ret (PB.of pd_bl)))
          zs_nil)
        (zs_cons (z_for (tg := (.tp [2, 3])) PassesOwn.never rfl (j_enumT (pd_var (pv 1)) m_enumerate) (pg_tup rfl (pgs_cons (pg_name (i := 2) sc_is_shape_up_to.nd rfl (by first | exact .inl rfl | exact .inr rfl)) (pgs_cons (pg_name (i := 3) sc_is_shape_up_to.nd rfl (by first | exact .inl rfl | exact .inr rfl)) pgs_nil)))
          (zs_one (z_if (PW.pt (w_or (pq_not (pq_val (pd_call c_is_whole.G hr c_is_whole.g c_is_whole.kp c_is_whole.b (pr_cons (pd_var (pv 3)) pr_nil)))) (w_or1 (pq_cmp (op_notInX (units65 hr)) l_inX (pb_var (pv 3)) (PB.of (pd_call c_distances_at.G hr c_distances_at.g c_distances_at.kp c_distances_at.b (pr_cons (pd_var (pv 1)) (pr_cons (pd_var (pv 2)) pr_nil)))) (by rfl)))))
            (zs_one (z_ret (PB.of pd_bl)))
            zs_nil)))
        (zs_one (z_ret (PB.of pd_bl)))))) (fun G as n Q hl hc => ?_)
  obtain ⟨m, d, rfl, hm, q⟩ := hc
  cases d with
  | tuple ds =>
    walk_at "go"; try dsimp only [List.set_cons_zero, List.set_cons_succ]
    by_cases h1 : 1 ≤ ds.length
    · rw [decide_eq_true (by omega : (1 : Int) ≤ (ds.length : Nat))]
      walk_at "go"; try dsimp only [List.set_cons_zero, List.set_cons_succ]
      by_cases h2 : ds.length ≤ m
      · rw [decide_eq_true (by omega : ((ds.length : Nat) : Int) ≤ (m : Nat))]
        walk_at "go"
        walk_at "go"; refine for_L _ (fun i E => ∃ y2 y3, E = ⟨[.dat (.int m), .dat (.tuple ds), y2, y3], n⟩ ∧ ∀ j, j < i → okB ds j = true) ⟨_, _, rfl, fun j hj => by omega⟩ (fun i d E D' hd h nx ct bk rt => ?_) (fun E h => ?_)
        · obtain ⟨y2, y3, rfl, hok⟩ := h
          rw [enumD_get, Option.map_eq_some_iff] at hd
          obtain ⟨x, hx, rfl⟩ := hd
          obtain ⟨hi, ex⟩ := List.getElem?_eq_some_iff.mp hx
          have eg : ds.getD i .none = x := by rw [List.getD_eq_getElem?_getD, hx]; rfl
          walk_at "go"
          walk_at "go"; refine And.intro rfl ⟨x, rfl, ?_⟩
          cases hw : isW x with
          | false =>
            have hno : okB ds i = false := by
              unfold okB
              rw [eg]
              cases x <;> first | rfl | cases hw
            show D'.rt (.bool false) n
            rw [rt]
            rw [isSh_no hi hno] at q
            walk_at "go"; exact q
          | true =>
            obtain ⟨v, rfl⟩ : ∃ v, x = .int v := by cases x <;> first | exact ⟨_, rfl⟩ | cases hw
            walk_at "go"
            walk_at "go"; refine And.intro rfl ⟨ds, i, rfl, by omega, by omega, hok, ?_⟩
            walk_at "go"; refine opt_of (inX_ints) ?_
            have ob := okB_iff eg
            by_cases hv : v ∈ dsL ds i
            · have := dsL_nn hv
              rw [decide_eq_true ⟨hv, this.1⟩] at ob
              rw [decide_eq_true hv]
              walk_at "go"; exact nx _ ⟨_, _, rfl, fun j hj => by rcases Nat.lt_succ_iff_lt_or_eq.mp hj with h | rfl; exact hok j h; exact ob⟩
            · rw [decide_eq_false (fun z => hv z.1)] at ob
              rw [decide_eq_false hv]
              show D'.rt (.bool false) n
              rw [rt]
              rw [isSh_no hi ob] at q
              walk_at "go"; exact q
        · obtain ⟨y2, y3, rfl, hok⟩ := h
          rw [isSh_yes h1 h2 (fun j hj => hok j (by have : (enumD ds).length = ds.length := enumFrom_length ds 0; omega))] at q
          walk_at "go"; exact q
      · rw [decide_eq_false (by omega : ¬ ((ds.length : Nat) : Int) ≤ (m : Nat))]
        rw [isSh_len (by omega)] at q
        walk_at "go"; exact q
    · rw [decide_eq_false (by omega : ¬ (1 : Int) ≤ (ds.length : Nat))]
      rw [isSh_len (by omega)] at q
      walk_at "go"; exact q
  | _ => (walk_at "go"; exact q)
abbrev s_is_shape : Stmt := topS 11
abbrev N_is_shape : List Str := ["value"]
theorem sc_is_shape : FnScope N_is_shape ["value"] (defScope s_is_shape) := ⟨rfl, rfl, rfl, by decide +kernel, rfl, by decide +kernel, by decide +kernel⟩
-- slots: 0 value
theorem ok_is_shape {f : Addr} {fd : FuncData} {k : Nat} {f_is_shape_up_to : Addr} {d_is_shape_up_to : FuncData} (F : Fun K "is_shape" "is_shape" s_is_shape f fd) (c_is_shape_up_to : Cd P w K mg base k "is_shape_up_to" f_is_shape_up_to d_is_shape_up_to ["most", "value"] C_is_shape_up_to) (g_MAX_PLACES : mg "MAX_PLACES" = some (.int G_MAX_PLACES t_MAX_PLACES)) : FnOk P w K mg base CX0 (k + 1) f fd ["value"] (spD C_is_shape 1) := by
  refine okD F sc_is_shape (fun G cdv A fr s H E hr =>
        (zs_one (z_ret (PB.of (pd_call c_is_shape_up_to.G hr c_is_shape_up_to.g c_is_shape_up_to.kp c_is_shape_up_to.b (pr_cons (pd_c (pe_glob (v := .int G_MAX_PLACES) rfl g_MAX_PLACES ⟨_, rfl⟩) fun _ _ => .int _) (pr_cons (pd_var (pv 0)) pr_nil))))))) (fun G as n Q hl hc => ?_)
  obtain ⟨d, rfl, q⟩ := hc
  walk_at "go"
  walk_at "go"; refine And.intro rfl ⟨12, d, rfl, by decide, ?_⟩
  walk_at "go"; exact q
end
end Lw
namespace Lw
open PySem PySem.Spec PyProof.Rows L2 Gd Dl Sh
local macro_rules | `(tactic| walk_at "go") => `(tactic| repeat (refine opt_of rfl ?_))
local macro_rules | `(tactic| walk_at "en") => `(tactic| dsimp only [dBor, dVar, setsD, List.set_cons_zero, List.set_cons_succ, List.getElem?_cons_zero, List.getElem?_cons_succ])
theorem add_tupD {a b : List PyData} (h : a.length + b.length ≤ 100000) : gAdd (.tuple a) (.tuple b) = some (.tuple (a ++ b)) := by
  show gCatT (.tuple a) (.tuple b) = _
  show (if small2 a b = true then _ else _) = _
  rw [show small2 a b = true from decide_eq_true h, if_pos rfl]
structure GP (k : Nat) (d : PyData) : Prop where
  sh : d.showable = true
  lv : d.leavesShort 100 = true
  dp : d.depth ≤ k
theorem GP.mono {k k' : Nat} {d : PyData} (h : GP k d) (hk : k ≤ k') : GP k' d := ⟨h.sh, h.lv, Nat.le_trans h.dp hk⟩
theorem gp_all {k : Nat} : ∀ {ds : List PyData}, (PyData.showableAll ds = true ∧ PyData.leavesShortAll 100 ds = true ∧ PyData.depthAll ds ≤ k) ↔ ∀ x ∈ ds, GP k x
  | [] => ⟨fun _ x hx => (by cases hx), fun _ => ⟨rfl, rfl, by simp [PyData.depthAll]⟩⟩
  | d :: ds => by
    rw [PyData.showableAll, PyData.leavesShortAll, PyData.depthAll, Bool.and_eq_true, Bool.and_eq_true]
    constructor
    · rintro ⟨⟨a1, a2⟩, ⟨b1, b2⟩, c⟩ x hx
      rcases List.mem_cons.mp hx with rfl | hx
      · exact ⟨a1, b1, by omega⟩
      · exact gp_all.mp ⟨a2, b2, by omega⟩ x hx
    · intro h
      obtain ⟨i1, i2, i3⟩ := gp_all.mpr fun x hx => h x (List.mem_cons_of_mem _ hx)
      have f := h d List.mem_cons_self
      have := f.dp
      exact ⟨⟨f.sh, i1⟩, ⟨f.lv, i2⟩, by omega⟩
theorem gp_tup {k : Nat} {ds : List PyData} : GP (k + 1) (.tuple ds) ↔ ∀ x ∈ ds, GP k x := by
  rw [← gp_all]
  constructor
  · rintro ⟨a, b, c⟩
    rw [PyData.showable] at a
    rw [PyData.leavesShort] at b
    rw [PyData.depth] at c
    exact ⟨a, b, by omega⟩
  · rintro ⟨a, b, c⟩
    exact ⟨by rw [PyData.showable]; exact a, by rw [PyData.leavesShort]; exact b, by rw [PyData.depth]; omega⟩
theorem gp_lst {k : Nat} {ds : List PyData} (h : ∀ x ∈ ds, GP k x) : GP (k + 1) (.list ds) := by
  obtain ⟨a, b, c⟩ := gp_all.mpr h
  exact ⟨by rw [PyData.showable]; exact a, by rw [PyData.leavesShort]; exact b, by rw [PyData.depth]; omega⟩
theorem gp_un {k : Nat} {ds : List PyData} (h : GP k (.tuple ds)) : ∃ k', k = k' + 1 ∧ ∀ x ∈ ds, GP k' x := by
  have := h.dp
  rw [PyData.depth] at this
  obtain ⟨k', rfl⟩ : ∃ k', k = k' + 1 := ⟨k - 1, by omega⟩
  exact ⟨k', rfl, gp_tup.mp h⟩
theorem Fit.gp {w k : Nat} {d : PyData} (h : Fit w k d) : GP k d := ⟨h.sh, h.lv, h.dp⟩
theorem GP.fit {w k : Nat} {d : PyData} (h : GP k d) (hw : d.weight ≤ w) : Fit w k d := ⟨h.sh, h.lv, hw, h.dp⟩
theorem wt_app : ∀ (a b : List PyData), PyData.weightAll (a ++ b) = PyData.weightAll a + PyData.weightAll b
  | [], b => by simp [PyData.weightAll]
  | x :: a, b => by
    rw [List.cons_append, PyData.weightAll, PyData.weightAll, wt_app a b]
    omega
theorem wt_rev : ∀ (a : List PyData), PyData.weightAll a.reverse = PyData.weightAll a
  | [] => rfl
  | x :: a => by
    rw [List.reverse_cons, wt_app, wt_rev a, PyData.weightAll, PyData.weightAll, PyData.weightAll]
    omega
theorem wt_take (a : List PyData) (k : Nat) : PyData.weightAll (a.take k) ≤ PyData.weightAll a := by
  conv => rhs; rw [← List.take_append_drop k a, wt_app]
  omega
theorem wt_drop (a : List PyData) (k : Nat) : PyData.weightAll (a.drop k) ≤ PyData.weightAll a := by
  conv => rhs; rw [← List.take_append_drop k a, wt_app]
  omega
theorem wt_tup (a : List PyData) : (PyData.tuple a).weight = PyData.weightAll a := by rw [PyData.weight]
theorem wt_lst (a : List PyData) : (PyData.list a).weight = PyData.weightAll a := by rw [PyData.weight]
theorem wt_len : ∀ (a : List PyData), a.length ≤ PyData.weightAll a
  | [] => by simp
  | x :: a => by
    have := wt_len a
    rw [PyData.weightAll, List.length_cons]
    omega
theorem slT_any {ds : List PyData} {lo hi : Option Int} : ∃ i m, gSlT (.tuple ds) lo hi = some (.tuple ((ds.drop i).take m)) := by
  unfold gSlT
  exact ⟨_, _, rfl⟩
mutual
def lsz : PyData → Nat
  | .tuple ds => if ds.length = 0 ∨ ds.length = 2 then min 99 (ds.length / 2 + lszAll ds) else 99
  | _ => 99
def lszAll : List PyData → Nat
  | [] => 0
  | x :: xs => lsz x + lszAll xs
end
theorem lszAll_app : ∀ (a b : List PyData), lszAll (a ++ b) = lszAll a + lszAll b
  | [], b => by simp [lszAll]
  | x :: a, b => by
    rw [List.cons_append, lszAll, lszAll, lszAll_app a b]
    omega
theorem lszAll_sum : ∀ (a : List PyData), ((lszAll a : Nat) : Int) = (a.map fun d => ((lsz d : Nat) : Int)).sum
  | [] => rfl
  | x :: a => by
    rw [lszAll, List.map_cons, List.sum_cons, ← lszAll_sum a]
    omega
theorem lsz_not {d : PyData} (h : ∀ ds, d ≠ .tuple ds) : lsz d = 99 := by
  cases d <;> first | exact absurd rfl (h _) | simp [lsz]
theorem mem02 {n : Nat} : ((n : Nat) : Int) ∈ [(0 : Int), 2] ↔ n = 0 ∨ n = 2 := by
  rw [List.mem_cons, List.mem_singleton]
  omega
/-- weights of what is left to look at -/
def mea (ds : List PyData) : Nat := PyData.weightAll ds
def C_is_tree : Con := fun _ as n Q => ∃ d : PyData, as = [.d d] ∧ d.weight ≤ 50000 ∧ Q (.bool (decide (1 ≤ lsz d ∧ lsz d ≤ 12))) n
section
variable {P : Program} {w : World} {K : PySem.W.Frag} {mg : Str → Option Value} {base : Heap}
abbrev s_is_tree : Stmt := topS 15
abbrev N_is_tree : List Str := ["value", "size", "rest", "part"]
theorem sc_is_tree : FnScope N_is_tree ["value"] (defScope s_is_tree) := ⟨rfl, rfl, rfl, by decide +kernel, rfl, by decide +kernel, by decide +kernel⟩
-- slots: 0 value, 1 size, 2 rest, 3 part
theorem ok_is_tree {f : Addr} {fd : FuncData} {k : Nat}  (F : Fun K "is_tree" "is_tree" s_is_tree f fd) (m_isinstance : mg "isinstance" = none) (m_len : mg "len" = none) (m_tuple : mg "tuple" = none) (g_MAX_PLACES : mg "MAX_PLACES" = some (.int G_MAX_PLACES t_MAX_PLACES)) : FnOk P w K mg base CX0 (k + 1) f fd ["value"] (spD C_is_tree 1) := by
  refine okD F sc_is_tree (fun G cdv A fr s H E hr =>
        (zs_cons (z_set (i := 1) sc_is_tree.nd rfl (by first | exact .inl rfl | exact .inr rfl) pd_int)
        (zs_cons (z_own (i := 2) sc_is_tree.nd rfl (by first | exact .inl rfl | exact .inr rfl) (pl_lst (pr_cons (pd_var (pv 0)) pr_nil)))
        (zs_cons (z_while PassesOwn.never (PW.pt (w_and (pq_cmp op_gt l_gt (PB.of (pd_len (pb_var (pv 2)) m_len)) (PB.of pd_int) (nomark _)) (w_and1 (pq_cmp op_le l_le (pb_var (pv 1)) (PB.of (pd_c (pe_glob (v := .int G_MAX_PLACES) rfl g_MAX_PLACES ⟨_, rfl⟩) fun _ _ => .int _)) (nomark _)))))
          (zs_cons (z_pop (i := 3) (j := 2) sc_is_tree.nd rfl (by first | exact .inl rfl | exact .inr rfl) (pv 2) (by decide))
          (zs_cons (z_if (PW.pt (w_or (pq_not (pq_val (pd_isi_tuple (pb_var (pv 3)) m_isinstance m_tuple))) (w_or1 (pq_cmp (op_notInX (units65 hr)) l_inX (PB.of (pd_len (pb_var (pv 3)) m_len)) (PB.of (pd_tup (pr_cons pd_int (pr_cons pd_int pr_nil)))) (by rfl)))))
            (zs_one (z_ret (PB.of pd_bl)))
            zs_nil)
          (zs_one (z_if (pq_cmp (op_eqX hr.units) l_eq (PB.of (pd_len (pb_var (pv 3)) m_len)) (PB.of pd_int) (nomark _))
            (zs_cons (z_aug (i := 1) sc_is_tree.nd rfl (by first | exact .inl rfl | exact .inr rfl) pd_int ip_add)
            (zs_one (z_extT (pv 2) (pd_var (pv 3)))))
            zs_nil)))))
        (zs_one (z_ret (PB.of (pd_chain op_le op_le l_le l_le (PB.of pd_int) (pb_var (pv 1)) (PB.of (pd_c (pe_glob (v := .int G_MAX_PLACES) rfl g_MAX_PLACES ⟨_, rfl⟩) fun _ _ => .int _)))))))))) (fun G as n Q hl hc => ?_)
  obtain ⟨v, rfl, hw, q⟩ := hc
  walk_at "go"; refine And.intro (rfl) ?_
  walk_at "go"; try dsimp only [List.set_cons_zero, List.set_cons_succ]
  refine ⟨fun m E => ∃ (s : Nat) (rest : List PyData) (y3 : Sl), E = ⟨[.dat v, .dat (.int (s : Nat)), .own rest, y3], n⟩ ∧ mea rest = m ∧ mea rest ≤ 50001 ∧ ((1 ≤ s + lszAll rest ∧ s + lszAll rest ≤ 12) ↔ (1 ≤ lsz v ∧ lsz v ≤ 12)), ⟨_, 0, [v], _, rfl, rfl, by unfold mea; rw [PyData.weightAll, PyData.weightAll]; omega, by rw [lszAll, lszAll]; simp⟩, ?_⟩
  rintro m E ⟨s, rest, y3, rfl, em, hm, hs⟩
  have fin : (rest = [] ∨ 12 < s) → Q (.bool (decide (1 ≤ (s : Int) ∧ (s : Int) ≤ 12))) n := fun h => by
    have : decide (1 ≤ (s : Int) ∧ (s : Int) ≤ 12) = decide (1 ≤ lsz v ∧ lsz v ≤ 12) := by
      refine decide_eq_decide.mpr ⟨fun z => hs.mp ?_, fun z => ?_⟩
      · rcases h with rfl | h
        · rw [lszAll]; omega
        · omega
      · have := hs.mpr z
        rcases h with rfl | h
        · rw [lszAll] at this; omega
        · omega
    rw [this]
    exact q
  have ret : Q (.bool (decide (1 ≤ (s : Int) ∧ (s : Int) ≤ 12))) n → (zRet (dChain gLe gLe (dC (PyData.int 1)) (dBor 1) (dC (PyData.int G_MAX_PLACES)))) { nx := fun E => Q PyData.none E.n, rt := Q } ⟨[.dat v, .dat (.int (s : Nat)), .own rest, y3], n⟩ := fun q => by
    walk_at "go"; try dsimp only [List.set_cons_zero, List.set_cons_succ]
    by_cases h1 : 1 ≤ (s : Int)
    · rw [decide_eq_true h1]
      walk_at "go"
      have : decide (1 ≤ (s : Int) ∧ (s : Int) ≤ 12) = decide ((s : Int) ≤ 12) := decide_eq_decide.mpr ⟨fun z => z.2, fun z => ⟨h1, z⟩⟩
      rw [this] at q
      walk_at "go"; exact q
    · rw [decide_eq_false h1]
      rw [decide_eq_false (fun z => h1 z.1)] at q
      walk_at "go"; exact q
  walk_at "go"; try dsimp only [List.set_cons_zero, List.set_cons_succ]
  rcases List.eq_nil_or_concat rest with rfl | ⟨us, p, rfl⟩
  · exact ret (fin (.inl rfl))
  rw [List.concat_eq_append] at *
  rw [decide_eq_true (by rw [List.length_append, List.length_singleton]; omega : (0 : Int) < (((us ++ [p]).length : Nat) : Int))]
  walk_at "go"; try dsimp only [List.set_cons_zero, List.set_cons_succ]
  by_cases h12 : (s : Int) ≤ 12
  case neg =>
    rw [decide_eq_false (show ¬ ((s : Int) ≤ G_MAX_PLACES) from h12)]
    exact ret (fin (.inr (by omega)))
  rw [decide_eq_true (show (s : Int) ≤ G_MAX_PLACES from h12)]
  walk_at "go"; try dsimp only [List.set_cons_zero, List.set_cons_succ]
  have wl := wt_len (us ++ [p])
  have hm' := hm
  unfold mea at hm hm' em
  rw [wt_app, PyData.weightAll, PyData.weightAll] at hm em
  rw [lszAll_app, lszAll, lszAll] at hs
  have no : 12 < lsz p → Q (.bool false) n := fun h => by
    rw [decide_eq_false (fun z => by have := hs.mpr z; omega)] at q
    exact q
  show match (us ++ [p]).getLast? with | some d => _ | none => False
  rw [List.getLast?_concat, List.dropLast_concat]
  walk_at "go"; try dsimp only [List.set_cons_zero, List.set_cons_succ]
  cases p with
  | tuple ds =>
    walk_at "go"; try dsimp only [List.set_cons_zero, List.set_cons_succ]
    walk_at "go"; refine And.intro (rfl) ?_
    walk_at "go"; refine opt_of (inX_intsT (ns := [0, 2])) ?_
    by_cases hb : ds.length = 0 ∨ ds.length = 2
    · rw [decide_eq_true (mem02.mpr hb)]
      walk_at "go"; try dsimp only [List.set_cons_zero, List.set_cons_succ]
      walk_at "go"; refine opt_of (eq_int) ?_
      have el : lsz (.tuple ds) = min 99 (ds.length / 2 + lszAll ds) := by rw [lsz, if_pos hb]
      rw [wt_tup] at em hm
      rw [el] at hs
      rcases hb with h0 | h2
      · rw [decide_eq_false (by omega : ¬ ((ds.length : Nat) : Int) = 2)]
        have e0 : ds = [] := List.length_eq_zero_iff.mp h0
        subst e0
        rw [lszAll] at hs
        refine ⟨mea us, by unfold mea; omega, s, us, _, rfl, rfl, by unfold mea; omega, ?_⟩
        rw [← hs]
        simp
      · rw [decide_eq_true (by omega : ((ds.length : Nat) : Int) = 2)]
        walk_at "go"; try dsimp only [List.set_cons_zero, List.set_cons_succ]
        have ew : mea (us ++ ds) = PyData.weightAll us + PyData.weightAll ds := wt_app us ds
        refine ⟨by have := wt_len us; have := wt_len ds; omega, mea (us ++ ds), by omega, s + 1, us ++ ds, _, rfl, rfl, by omega, ?_⟩
        rw [← hs, lszAll_app]
        omega
    · rw [decide_eq_false (fun z => hb (mem02.mp z))]
      exact no (by rw [lsz, if_neg hb]; omega)
  | _ => exact no (by rw [lsz_not (fun ds z => by cases z)]; omega)
end
end Lw
namespace Lw
open PySem PySem.Spec PyProof.Rows L2 Gd Dl Sh
local macro_rules | `(tactic| walk_at "go") => `(tactic| repeat (refine opt_of rfl ?_))
local macro_rules | `(tactic| walk_at "en") => `(tactic| dsimp only [dBor, dVar, setsD, List.set_cons_zero, List.set_cons_succ, List.getElem?_cons_zero, List.getElem?_cons_succ])
def C_tree_distances (j : Nat) : Con := fun _ as n Q => ∃ (t : Tr) (b : Bool), as = [.d (encT t), .d (.bool b)] ∧ t.size < j ∧ t.size ≤ 60 ∧ Q (lstI (dsts t b)) n
theorem no_tree_distances {F : Fr} {as : List Ar} {n : Nat} {Q : PyData → Nat → Prop} (h : C_tree_distances 0 F as n Q) : False := by
  obtain ⟨_, _, _, h, _⟩ := h
  omega
def C_tree_shape : Con := fun _ as n Q => ∃ t : Tr, as = [.d (encT t)] ∧ t.size ≤ 12 ∧ Q (tupI (dsts t false)) n
def C__law_shape : Con := fun _ as n Q => ∃ ns : List Int, as = [.d (tupI ns)] ∧ ns.length ≤ 60 ∧ Q (tupI (shp ns)) n
def C__law_drawn (j : Nat) : Con := fun F as n Q => ∃ m : Nat, as = [.c F.s, .d (.int m)] ∧ IsS F ∧ m < j ∧ m ≤ 12 ∧ n + 2 * m ≤ 900000 ∧ ∀ (t : Tr) (n' : Nat), t.size = m → n' ≤ n + 2 * m → Q (encT t) n'
theorem no__law_drawn {F : Fr} {as : List Ar} {n : Nat} {Q : PyData → Nat → Prop} (h : C__law_drawn 0 F as n Q) : False := by
  obtain ⟨_, _, _, h, _⟩ := h
  omega
def C__law_all_shapes : Con := fun _ as n Q => ∃ m : Nat, as = [.d (.int m)] ∧ m ≤ 7 ∧ Q (.list ((allSh m).map fun q => tupI q.1)) n
section
variable {P : Program} {w : World} {K : PySem.W.Frag} {mg : Str → Option Value} {base : Heap}
abbrev s_tree_distances : Stmt := topS 18
abbrev N_tree_distances : List Str := ["tree", "follows", "left", "right", "before", "distance"]
theorem sc_tree_distances : FnScope N_tree_distances ["tree", "follows"] (defScope s_tree_distances) := ⟨rfl, rfl, rfl, by decide +kernel, rfl, by decide +kernel, by decide +kernel⟩
-- slots: 0 tree, 1 follows, 2 left, 3 right, 4 before, 5 distance
theorem ok_tree_distances {f : Addr} {fd : FuncData} {k j : Nat} (F : Fun K "tree_distances" "tree_distances" s_tree_distances f fd) (c_tree_distances : Cd P w K mg base k "tree_distances" f fd ["tree", "follows"] (C_tree_distances j)) (m_len : mg "len" = none) : FnOk P w K mg base CX0 (k + 1) f fd ["tree", "follows"] (spD (C_tree_distances (j + 1)) 2) := by
  refine okD F sc_tree_distances (fun G cdv A fr s H E hr =>
        (zs_cons (z_if (pq_cmp (op_eqX hr.units) l_eq (PB.of (pd_len (pb_var (pv 0)) m_len)) (PB.of pd_int) (nomark _))
          (zs_one (z_ret (PB.of (PD.ofL (pl_lst pr_nil)))))
          zs_nil)
        (zs_cons (z_asg (tg := (.tp [2, 3])) (pd_var (pv 0)) (pg_tup rfl (pgs_cons (pg_name (i := 2) sc_tree_distances.nd rfl (by first | exact .inl rfl | exact .inr rfl)) (pgs_cons (pg_name (i := 3) sc_tree_distances.nd rfl (by first | exact .inl rfl | exact .inr rfl)) pgs_nil))))
        (zs_cons (z_set (i := 4) sc_tree_distances.nd rfl (by first | exact .inl rfl | exact .inr rfl) (pd_call c_tree_distances.G hr c_tree_distances.g c_tree_distances.kp c_tree_distances.b (pr_cons (pd_var (pv 2)) (pr_cons (pd_var (pv 1)) pr_nil))))
        (zs_cons (z_set (i := 5) sc_tree_distances.nd rfl (by first | exact .inl rfl | exact .inr rfl) (pd_if (pq_val (pd_var (pv 1))) (pd_add (PB.of (pd_len (pb_var (pv 4)) m_len)) (PB.of pd_int)) pd_int))
        (zs_one (z_ret (PB.of (PD.ofL (pl_add (PB.of (PD.ofL (pl_add (pb_var (pv 4)) (PB.of (PD.ofL (pl_lst (pr_cons (pd_var (pv 5)) pr_nil))))))) (PB.of (pd_call c_tree_distances.G hr c_tree_distances.g c_tree_distances.kp c_tree_distances.b (pr_cons (pd_var (pv 3)) (pr_cons pd_bl pr_nil)))))))))))))) (fun G as n Q hl hc => ?_)
  obtain ⟨t, b, rfl, hj, h60, q⟩ := hc
  cases t with
  | nil =>
    walk_at "go"
    walk_at "go"; refine opt_of (eq_int) ?_
    walk_at "go"
    walk_at "go"; refine And.intro (rfl) ?_
    walk_at "go"; exact q
  | node l r =>
    have hs : (Tr.node l r).size = l.size + r.size + 1 := rfl
    walk_at "go"
    walk_at "go"; refine opt_of (eq_int) ?_
    walk_at "go"
    walk_at "go"; refine And.intro rfl ⟨l, b, rfl, by omega, by omega, ?_⟩
    have l1 := dsts_length l b
    have l2 := dsts_length r true
    have fin : ∀ x : Int, x = (if b then ((dsts l b).length : Int) + 1 else 0) → ∀ R : PyData → Nat → Prop, (R (lstI (dsts (.node l r) b)) n) → R (.list ((dsts l b).map dI ++ [.int x] ++ (dsts r true).map dI)) n := by
      intro x hx R h
      have : (dsts l b).map dI ++ [.int x] ++ (dsts r true).map dI = (dsts (.node l r) b).map dI := by
        show _ = (dsts l b ++ [if b then ((dsts l b).length : Int) + 1 else 0] ++ dsts r true).map dI
        rw [List.map_append, List.map_append, hx]
        rfl
      rw [this]
      exact h
    cases b with
    | true =>
      walk_at "go"
      walk_at "go"; refine And.intro (rfl) ?_
      walk_at "go"; refine opt_of (cat_lst (by simp; omega)) ?_
      walk_at "go"; refine And.intro rfl ⟨r, true, rfl, by omega, by omega, ?_⟩
      walk_at "go"; refine opt_of (cat_lst (by simp; omega)) ?_
      walk_at "go"
      refine fin _ ?_ Q q
      simp
    | false =>
      walk_at "go"
      walk_at "go"; refine And.intro (rfl) ?_
      walk_at "go"; refine opt_of (cat_lst (by simp; omega)) ?_
      walk_at "go"; refine And.intro rfl ⟨r, true, rfl, by omega, by omega, ?_⟩
      walk_at "go"; refine opt_of (cat_lst (by simp; omega)) ?_
      walk_at "go"
      exact fin _ rfl Q q
theorem rec_tree_distances {f : Addr} {fd : FuncData} {k : Nat} (F : Fun K "tree_distances" "tree_distances" s_tree_distances f fd) (m_len : mg "len" = none) (kp : PySem.W.keepIn K (.ref f) = true) (b : Binds K fd ["tree", "follows"] []) (g : mg "tree_distances" = some (.ref f)) : ∀ j, FnOk P w K mg base CX0 (k + 1 + j) f fd ["tree", "follows"] (spD (C_tree_distances j) 2)
  | 0 => fn_false rfl fun F as n Q h => no_tree_distances h
  | j + 1 => ok_tree_distances (k := k + 1 + j) F ⟨rec_tree_distances F m_len kp b g j, kp, b, g⟩ m_len
abbrev s_tree_shape : Stmt := topS 19
abbrev N_tree_shape : List Str := ["tree"]
theorem sc_tree_shape : FnScope N_tree_shape ["tree"] (defScope s_tree_shape) := ⟨rfl, rfl, rfl, by decide +kernel, rfl, by decide +kernel, by decide +kernel⟩
-- slots: 0 tree
theorem ok_tree_shape {f : Addr} {fd : FuncData} {k : Nat} {f_tree_distances : Addr} {d_tree_distances : FuncData} (F : Fun K "tree_shape" "tree_shape" s_tree_shape f fd) (c_tree_distances : Cd P w K mg base k "tree_distances" f_tree_distances d_tree_distances ["tree", "follows"] (C_tree_distances 13)) (m_tuple : mg "tuple" = none) : FnOk P w K mg base CX0 (k + 1) f fd ["tree"] (spD C_tree_shape 1) := by
  refine okD F sc_tree_shape (fun G cdv A fr s H E hr =>
        (zs_one (z_ret (PB.of (pd_tuple (PB.of (pd_call c_tree_distances.G hr c_tree_distances.g c_tree_distances.kp c_tree_distances.b (pr_cons (pd_var (pv 0)) (pr_cons pd_bl pr_nil)))) m_tuple))))) (fun G as n Q hl hc => ?_)
  obtain ⟨t, rfl, h12, q⟩ := hc
  walk_at "go"
  walk_at "go"; refine And.intro rfl ⟨t, false, rfl, by omega, by omega, ?_⟩
  walk_at "go"; exact q
abbrev s__law_shape : Stmt := topS 25
abbrev N__law_shape : List Str := ["_law_row_here", "_law_found", "_law_place", "_law_earlier", "_law_other"]
theorem sc__law_shape : FnScope N__law_shape ["_law_row_here"] (defScope s__law_shape) := ⟨rfl, rfl, rfl, by decide +kernel, rfl, by decide +kernel, by decide +kernel⟩
-- slots: 0 _law_row_here, 1 _law_found, 2 _law_place, 3 _law_earlier, 4 _law_other
theorem ok__law_shape {f : Addr} {fd : FuncData} {k : Nat}  (F : Fun K "_law_shape" "_law_shape" s__law_shape f fd) (m_len : mg "len" = none) (m_max : mg "max" = none) (m_range : mg "range" = none) (m_tuple : mg "tuple" = none) : FnOk P w K mg base CX0 (k + 1) f fd ["_law_row_here"] (spD C__law_shape 1) := by
  refine okD F sc__law_shape (fun G cdv A fr s H E hr =>
        (zs_cons (z_own (i := 1) sc__law_shape.nd rfl (by first | exact .inl rfl | exact .inr rfl) (pl_lst pr_nil))
        (zs_cons (z_for (tg := (.nm 2)) PassesOwn.never rfl (j_range1 (pd_len (pb_var (pv 0)) m_len) m_range) (pg_name (i := 2) sc__law_shape.nd rfl (by first | exact .inl rfl | exact .inr rfl))
          (zs_cons (z_ownLc (i := 3) rfl sc__law_shape.nd rfl rfl (sw_true rfl rfl rfl (by decide +kernel)) (own := [("_law_other", 4)]) (tg := (.nm 4)) (j_range1 (pd_var (pv 2)) m_range) (blkOk_by (N := N__law_shape) (sc := defScope s__law_shape) (by decide +kernel)) (fun _ _ _ _ _ => (pg_name (i := 4) sc__law_shape.nd rfl (by first | exact .inl rfl | exact .inr rfl))) (fun _ _ _ _ _ => ts_one (pq_cmp op_le l_le (PB.of (pd_ix (pb_var (pv 0)) (pb_var (pv 4)) (fun _ _ => rfl))) (PB.of (pd_ix (pb_var (pv 0)) (pb_var (pv 2)) (fun _ _ => rfl))) (nomark _))) (fun _ _ _ _ _ => (pd_var (pv 4))) (by simp [tgIn]))
          (zs_one (z_app (pv 1) (pd_if (pq_cmp (op_neX hr.units) l_ne (pb_var (pv 3)) (PB.of (PD.ofL (pl_lst pr_nil))) (nomark _)) (pd_sub (pb_var (pv 2)) (PB.of (pd_maxL rfl (pb_var (pv 3)) m_max))) pd_int)))))
        (zs_one (z_ret (PB.of (pd_tuple (pb_var (pv 1)) m_tuple))))))) (fun G as n Q hl hc => ?_)
  obtain ⟨ns, rfl, h60, q⟩ := hc
  walk_at "go"; refine And.intro (rfl) ?_
  have el : (((ns.map dI).length : Nat) : Int).toNat = ns.length := by simp
  walk_at "go"; refine And.intro (dec2 (by rw [List.length_map]; omega)) ?_
  walk_at "go"; refine for_Z _ (fun i E => ∃ y2 y3 y4, E = ⟨[.dat (tupI ns), .own (((List.range i).map fun p => ((dist ns p : Nat) : Int)).map dI), y2, y3, y4], n⟩) ⟨_, _, _, rfl⟩ (fun i E D' hi h nx ct bk rt => ?_) (fun E h => ?_)
  · obtain ⟨y2, y3, y4, rfl⟩ := h
    rw [el] at hi
    walk_at "go"; refine And.intro (dec2 (by omega)) ?_
    have ei : (((i : Nat) : Int)).toNat = i := by omega
    walk_at "go"; refine lc_Z _ (fun j => decide (en ns j ≤ en ns i)) (fun j => .int ((j : Nat) : Int)) (fun j hj => ?_) (by omega) ?_
    · rw [ei] at hj
      refine ⟨_, rfl, fun n R r => ?_, fun _ n R r => r⟩
      walk_at "go"; refine opt_of (ix_row (i := j) rfl (by omega)) ?_
      walk_at "go"; refine opt_of (ix_row (i := i) rfl (by omega)) ?_
      walk_at "go"; exact r
    rw [ei]
    generalize hL : (List.range i).filter (fun j => decide (en ns j ≤ en ns i)) = L
    obtain ⟨_, p1, p2⟩ := prevLe_max ns i i
    rw [hL] at p1 p2
    have em : L.map (fun j => PyData.int ((j : Nat) : Int)) = (L.map fun j : Nat => (j : Int)).map dI := by rw [List.map_map]; rfl
    rw [em]
    walk_at "go"; refine And.intro (rfl) ?_
    walk_at "go"; refine opt_of (eq_lstI (neg := true) (ms := [])) ?_
    have fin : ∀ x : Int, x = (dist ns i : Nat) → (((List.range i).map fun p => ((dist ns p : Nat) : Int)).map dI).length < 100000 ∧ D'.nx ⟨[.dat (tupI ns), .own ((((List.range i).map fun p => ((dist ns p : Nat) : Int)).map dI) ++ [.int x]), .dat (.int (i : Nat)), .own ((L.map fun j : Nat => (j : Int)).map dI), y4], n⟩ := by
      intro x hx
      have ea : (((List.range i).map fun p => ((dist ns p : Nat) : Int)).map dI) ++ [.int x] = ((List.range (i + 1)).map fun p => ((dist ns p : Nat) : Int)).map dI := by
        rw [List.range_succ, List.map_append, List.map_append, hx]
        rfl
      rw [ea]
      exact ⟨by simp; omega, nx _ ⟨_, _, _, rfl⟩⟩
    walk_at "go"; refine ifT (fun h => ?_) (fun h => ?_)
    · have hne : L ≠ [] := by
        rintro rfl
        simp at h
      obtain ⟨m, m1, m2⟩ := maxN L hne
      walk_at "go"; refine opt_of (gMaxL_of (m := (m : Int)) (List.mem_map.mpr ⟨m, m1, rfl⟩) (fun y hy => by obtain ⟨z, hz, rfl⟩ := List.mem_map.mp hy; have := m2 z hz; omega)) ?_
      walk_at "go"; refine fin _ ?_
      have hm : m < i := by
        rw [← hL] at m1
        exact List.mem_range.mp (List.mem_filter.mp m1).1
      have : dist ns i = i - m := p2 m m1 m2
      rw [this]
      omega
    · have he : L = [] := by
        simpa using h
      walk_at "go"; refine fin 0 ?_
      have : dist ns i = 0 := p1 he
      rw [this]
      rfl
  · obtain ⟨y2, y3, y4, rfl⟩ := h
    rw [el]
    walk_at "go"; exact q
abbrev s__law_drawn : Stmt := topS 26
abbrev N__law_drawn : List Str := ["_law_stream_here", "_law_many", "_law_left"]
theorem sc__law_drawn : FnScope N__law_drawn ["_law_stream_here", "_law_many"] (defScope s__law_drawn) := ⟨rfl, rfl, rfl, by decide +kernel, rfl, by decide +kernel, by decide +kernel⟩
-- slots: 0 _law_stream_here, 1 _law_many, 2 _law_left
theorem ok__law_drawn {f : Addr} {fd : FuncData} {k j : Nat} {f__law_draw : Addr} {d__law_draw : FuncData} (F : Fun K "_law_drawn" "_law_drawn" s__law_drawn f fd) (c__law_drawn : Cd P w K mg base k "_law_drawn" f fd ["_law_stream_here", "_law_many"] (C__law_drawn j)) (c__law_draw : Cd P w K mg base k "_law_draw" f__law_draw d__law_draw ["_law_stream_here", "_law_many"] C__law_draw) : FnOk P w K mg base CX0 (k + 1) f fd ["_law_stream_here", "_law_many"] (spD (C__law_drawn (j + 1)) 2) := by
  refine okD F sc__law_drawn (fun G cdv A fr s H E hr =>
        (zs_cons (z_if (pq_cmp (op_eqX hr.units) l_eq (pb_var (pv 1)) (PB.of pd_int) (nomark _))
          (zs_one (z_ret (PB.of (pd_tup pr_nil))))
          zs_nil)
        (zs_cons (z_set (i := 2) sc__law_drawn.nd rfl (by first | exact .inl rfl | exact .inr rfl) (pd_ix (PB.of (PD.ofL (pl_lst (pr_cons (pd_call c__law_draw.G hr c__law_draw.g c__law_draw.kp c__law_draw.b (pr_con (pv 0) (pr_cons (pd_var (pv 1)) pr_nil))) (pr_cons pd_int (pr_cons (pd_sub (pb_var (pv 1)) (PB.of pd_int)) pr_nil)))))) (PB.of (pd_call c__law_draw.G hr c__law_draw.g c__law_draw.kp c__law_draw.b (pr_con (pv 0) (pr_cons pd_int pr_nil)))) (fun _ _ => rfl)))
        (zs_one (z_ret (PB.of (pd_tup (pr_cons (pd_call c__law_drawn.G hr c__law_drawn.g c__law_drawn.kp c__law_drawn.b (pr_con (pv 0) (pr_cons (pd_var (pv 2)) pr_nil))) (pr_cons (pd_call c__law_drawn.G hr c__law_drawn.g c__law_drawn.kp c__law_drawn.b (pr_con (pv 0) (pr_cons (pd_sub (PB.of (pd_sub (pb_var (pv 1)) (PB.of pd_int))) (pb_var (pv 2))) pr_nil))) pr_nil))))))))) (fun G as n Q hl hc => ?_)
  obtain ⟨m, rfl, hF, hj, h12, hn, q⟩ := hc
  walk_at "go"; refine opt_of (eq_int) ?_
  walk_at "go"
  walk_at "go"; refine ifT (fun h => ?_) (fun h => ?_)
  · have h' := of_decide_eq_true h
    walk_at "go"; refine And.intro (rfl) ?_
    walk_at "go"; exact q .nil n (by show 0 = m; omega) (by omega)
  · have h' := of_decide_eq_false h
    walk_at "go"
    walk_at "go"; refine And.intro rfl ⟨m, rfl, hF, by show n < 1000000; omega, by omega, by omega, fun r r0 r1 => ?_⟩
    walk_at "go"; refine And.intro (rfl) ?_
    walk_at "go"
    walk_at "go"; refine And.intro rfl ⟨3, rfl, hF, by show n + 1 < 1000000; omega, by decide, by decide, fun r2 r20 r21 => ?_⟩
    obtain ⟨a, ha, ha2⟩ : ∃ a : Nat, atI [PyData.int r, .int 0, .int ((m : Int) - 1)] r2 = some (.int (a : Nat)) ∧ a < m := by
      obtain ⟨i, rfl⟩ : ∃ i : Nat, r2 = (i : Int) := ⟨r2.toNat, by omega⟩
      have hi : i < 3 := by omega
      match i, hi with
      | 0, _ => exact ⟨r.toNat, by show some (PyData.int r) = _; rw [Int.toNat_of_nonneg r0], by omega⟩
      | 1, _ => exact ⟨0, rfl, by omega⟩
      | 2, _ => exact ⟨m - 1, by show some (PyData.int ((m : Int) - 1)) = _; rw [show (m : Int) - 1 = ((m - 1 : Nat) : Int) by omega], by omega⟩
    walk_at "go"; refine opt_of ((show gIx (.list [PyData.int r, .int 0, .int ((m : Int) - 1)]) (.int r2) = _ from ha)) ?_
    walk_at "go"
    walk_at "go"; refine And.intro rfl ⟨a, rfl, hF, by omega, by omega, by show n + 1 + 1 + 2 * a ≤ 900000; omega, fun t1 n1 e1 b1 => ?_⟩
    have b1' : n1 ≤ n + 1 + 1 + 2 * a := b1
    walk_at "go"
    walk_at "go"; refine And.intro rfl ⟨m - 1 - a, ?_, hF, by omega, by omega, by show n1 + 2 * (m - 1 - a) ≤ 900000; omega, fun t2 n2 e2 b2 => ?_⟩
    · show [Ar.c G.F.s, Ar.d (.int ((m : Int) - 1 - (a : Nat)))] = _
      rw [show (m : Int) - 1 - (a : Nat) = ((m - 1 - a : Nat) : Int) by omega]
    have b2' : n2 ≤ n1 + 2 * (m - 1 - a) := b2
    walk_at "go"; refine And.intro (rfl) ?_
    walk_at "go"; exact q (.node t1 t2) n2 (by show t1.size + t2.size + 1 = m; omega) (by omega)
theorem rec__law_drawn {f : Addr} {fd : FuncData} {k : Nat} {f__law_draw : Addr} {d__law_draw : FuncData} (F : Fun K "_law_drawn" "_law_drawn" s__law_drawn f fd) (c__law_draw : Cd P w K mg base k "_law_draw" f__law_draw d__law_draw ["_law_stream_here", "_law_many"] C__law_draw) (kp : PySem.W.keepIn K (.ref f) = true) (b : Binds K fd ["_law_stream_here", "_law_many"] []) (g : mg "_law_drawn" = some (.ref f)) : ∀ j, FnOk P w K mg base CX0 (k + 1 + j) f fd ["_law_stream_here", "_law_many"] (spD (C__law_drawn j) 2)
  | 0 => fn_false rfl fun F as n Q h => no__law_drawn h
  | j + 1 => ok__law_drawn (k := k + 1 + j) F ⟨rec__law_drawn F c__law_draw kp b g j, kp, b, g⟩ (c__law_draw.mono (by omega))
abbrev s__law_all_shapes : Stmt := topS 27
abbrev N__law_all_shapes : List Str := ["_law_many", "_law_found", "_law_place", "_law_longer", "_law_shape_here", "_law_open_ones", "_law_k"]
theorem sc__law_all_shapes : FnScope N__law_all_shapes ["_law_many"] (defScope s__law_all_shapes) := ⟨rfl, rfl, rfl, by decide +kernel, rfl, by decide +kernel, by decide +kernel⟩
-- slots: 0 _law_many, 1 _law_found, 2 _law_place, 3 _law_longer, 4 _law_shape_here, 5 _law_open_ones, 6 _law_k
theorem ok__law_all_shapes {f : Addr} {fd : FuncData} {k : Nat}  (F : Fun K "_law_all_shapes" "_law_all_shapes" s__law_all_shapes f fd) (m_len : mg "len" = none) (m_range : mg "range" = none) : FnOk P w K mg base CX0 (k + 1) f fd ["_law_many"] (spD C__law_all_shapes 1) := by
  refine okD F sc__law_all_shapes (fun G cdv A fr s H E hr =>
        (zs_cons (z_set (i := 1) sc__law_all_shapes.nd rfl (by first | exact .inl rfl | exact .inr rfl) (PD.ofL (pl_lst (pr_cons (pd_tup (pr_cons (pd_tup pr_nil) (pr_cons (pd_tup pr_nil) pr_nil))) pr_nil))))
        (zs_cons (z_for (tg := (.nm 2)) PassesOwn.never rfl (j_range1 (pd_var (pv 0)) m_range) (pg_name (i := 2) sc__law_all_shapes.nd rfl (by first | exact .inl rfl | exact .inr rfl))
          (zs_cons (z_own (i := 3) sc__law_all_shapes.nd rfl (by first | exact .inl rfl | exact .inr rfl) (pl_lst pr_nil))
          (zs_cons (z_for (tg := (.tp [4, 5])) PassesOwn.never rfl (j_seq (pd_var (pv 1))) (pg_tup rfl (pgs_cons (pg_name (i := 4) sc__law_all_shapes.nd rfl (by first | exact .inl rfl | exact .inr rfl)) (pgs_cons (pg_name (i := 5) sc__law_all_shapes.nd rfl (by first | exact .inl rfl | exact .inr rfl)) pgs_nil)))
            (zs_cons (z_app (pv 3) (pd_tup (pr_cons (pd_add (pb_var (pv 4)) (PB.of (pd_tup (pr_cons pd_int pr_nil)))) (pr_cons (pd_tup (pr_cons (pd_var (pv 2)) pr_nil)) pr_nil))))
            (zs_one (z_for (tg := (.nm 6)) PassesOwn.never rfl (j_range3 (pd_sub (PB.of (pd_len (pb_var (pv 5)) m_len)) (PB.of pd_int)) (pd_neg (PB.of pd_int)) (pd_neg (PB.of pd_int)) m_range) (pg_name (i := 6) sc__law_all_shapes.nd rfl (by first | exact .inl rfl | exact .inr rfl))
              (zs_one (z_app (pv 3) (pd_tup (pr_cons (pd_add (pb_var (pv 4)) (PB.of (pd_tup (pr_cons (pd_sub (pb_var (pv 2)) (PB.of (pd_ix (pb_var (pv 5)) (pb_var (pv 6)) (fun _ _ => rfl)))) pr_nil)))) (pr_cons (pd_add (PB.of (pd_slT (pb_var (pv 5)) po_non (po_som (PB.of (pd_add (pb_var (pv 6)) (PB.of pd_int)))))) (PB.of (pd_tup (pr_cons (pd_var (pv 2)) pr_nil)))) pr_nil)))))))))
          (zs_one (z_frz 3 (z_set (i := 1) sc__law_all_shapes.nd rfl (by first | exact .inl rfl | exact .inr rfl) (pd_var (pv 3))))))))
        (zs_one (z_ret (PB.of (PD.ofL (pl_lc (own := [("_law_shape_here", 4), ("_law_open_ones", 5)]) (tg := (.tp [4, 5])) rfl sc__law_all_shapes.nd (j_seq (pd_var (pv 1))) (blkOk_by (N := N__law_all_shapes) (sc := defScope s__law_all_shapes) (by decide +kernel)) (fun _ _ _ _ _ => (pg_tup rfl (pgs_cons (pg_name (i := 4) sc__law_all_shapes.nd rfl (by first | exact .inl rfl | exact .inr rfl)) (pgs_cons (pg_name (i := 5) sc__law_all_shapes.nd rfl (by first | exact .inl rfl | exact .inr rfl)) pgs_nil)))) (fun _ _ _ _ _ => ts_nil) (fun _ _ _ _ _ => (pd_var (pv 4))) (by simp [tgIn]))))))))) (fun G as n Q hl hc => ?_)
  obtain ⟨m, rfl, hm, q⟩ := hc
  walk_at "go"; refine And.intro (rfl) ?_
  walk_at "go"; refine And.intro (rfl) ?_
  walk_at "go"; refine And.intro (rfl) ?_
  walk_at "go"; refine And.intro (rfl) ?_
  walk_at "go"; refine And.intro ((dec2 (by omega))) ?_
  walk_at "go"; refine for_Z _ (fun p E => ∃ y2 y3 y4 y5 y6, E = ⟨[.dat (.int m), .dat (.list ((allSh p).map enc)), y2, y3, y4, y5, y6], n⟩) ⟨_, _, _, _, _, rfl⟩ (fun p E D' hp h nx ct bk rt => ?_) (fun E h => ?_)
  · obtain ⟨y2, y3, y4, y5, y6, rfl⟩ := h
    have hp' : p < m := by omega
    have hlen := allSh_len (m := p + 1) (by omega)
    walk_at "go"; refine And.intro (rfl) ?_
    walk_at "go"; refine for_L _ (fun i E => ∃ y4 y5 y6, E = ⟨[.dat (.int m), .dat (.list ((allSh p).map enc)), .dat (.int p), .own ((((allSh p).take i).flatMap (ext p)).map enc), y4, y5, y6], n⟩) ⟨y4, y5, y6, rfl⟩ (fun i d E D2 hd h nx2 ct2 bk2 rt2 => ?_) (fun E h => ?_)
    · obtain ⟨z4, z5, z6, rfl⟩ := h
      rw [List.getElem?_map, Option.map_eq_some_iff] at hd
      obtain ⟨⟨sh, op⟩, hq, rfl⟩ := hd
      have hi : i < (allSh p).length := (List.getElem?_eq_some_iff.mp hq).1
      obtain ⟨b1, b2⟩ := allSh_q (m := p) (by omega) (List.mem_of_getElem? hq)
      have b1' : sh.length ≤ 7 := b1
      have b2' : op.length ≤ 7 := b2
      have htk : (allSh p).take (i + 1) = (allSh p).take i ++ [(sh, op)] := by
        rw [List.take_succ, hq]
        rfl
      have hbd : (((allSh p).take (i + 1)).flatMap (ext p)).length ≤ 1000 := by
        refine Nat.le_trans ?_ hlen
        show _ ≤ ((allSh p).flatMap (ext p)).length
        conv => rhs; rw [← List.take_append_drop (i + 1) (allSh p)]
        rw [List.flatMap_append, List.length_append]
        omega
      have hsp : ((allSh p).take (i + 1)).flatMap (ext p) = ((allSh p).take i).flatMap (ext p) ++ ext p (sh, op) := by
        rw [htk, List.flatMap_append, List.flatMap_cons, List.flatMap_nil, List.append_nil]
      rw [hsp, List.length_append] at hbd
      rw [hsp] at nx2
      generalize ((allSh p).take i).flatMap (ext p) = bs at *
      have hel : (ext p (sh, op)).length = op.length + 1 := by simp [ext]
      walk_at "go"
      walk_at "go"; refine And.intro (rfl) ?_
      walk_at "go"; refine opt_of (add_tup (a := sh) (b := [0]) (by simp; omega)) ?_
      walk_at "go"; refine And.intro (rfl) ?_
      walk_at "go"; refine And.intro (rfl) ?_
      walk_at "go"; refine And.intro (by simp; omega) ?_
      walk_at "go"; refine And.intro ((dec2 (by simp; omega))) ?_
      have eN : ((((op.map dI).length : Nat) : Int) - 1 - -1).toNat = op.length := by simp
      walk_at "go"; refine for_D _ _ (fun j E => ∃ y6, E = ⟨[.dat (.int m), .dat (.list ((allSh p).map enc)), .dat (.int p), .own ((bs ++ (ext p (sh, op)).take (j + 1)).map enc), .dat (tupI sh), .dat (tupI op), y6], n⟩) ⟨z6, ?_⟩ (fun j E D3 hj h nx3 ct3 bk3 rt3 => ?_) (fun E h => ?_)
      · rw [List.map_append]
        rfl
      · obtain ⟨w6, rfl⟩ := h
        rw [eN] at hj
        walk_at "go"
        walk_at "go"; refine opt_of (ix_row (ns := op) (i := op.length - 1 - j) (by first | omega | (simp only [List.length_map]; omega) | (simp; omega)) (by omega)) ?_
        walk_at "go"; refine And.intro (rfl) ?_
        walk_at "go"; refine opt_of (add_tup (a := sh) (b := [(p : Int) - en op (op.length - 1 - j)]) (by simp; omega)) ?_
        walk_at "go"; refine opt_of (cut_take (ms := op) (t := op.length - j) (x := (((op.map dI).length : Nat) : Int) - 1 - (j : Nat) + 1) (by rw [List.length_map]; omega) (by omega)) ?_
        walk_at "go"; refine And.intro (rfl) ?_
        walk_at "go"; refine opt_of (add_tup (a := op.take (op.length - j)) (b := [(p : Int)]) (by simp; omega)) ?_
        walk_at "go"; refine And.intro (rfl) ?_
        walk_at "go"; refine And.intro (by simp; omega) ?_
        have et : (ext p (sh, op)).take (j + 1 + 1) = (ext p (sh, op)).take (j + 1) ++ [(sh ++ [(p : Int) - en op (op.length - 1 - j)], op.take (op.length - j) ++ [(p : Int)])] := by
          rw [List.take_succ (i := j + 1)]
          congr 1
          show ((ext p (sh, op))[j + 1]?).toList = _
          simp [ext, hj]
        rw [et, ← List.append_assoc, List.map_append] at nx3
        walk_at "go"; exact nx3 _ ⟨_, rfl⟩
      · obtain ⟨w6, rfl⟩ := h
        rw [eN, List.take_of_length_le (by omega)]
        walk_at "go"; exact nx2 _ ⟨_, _, _, rfl⟩
    · obtain ⟨z4, z5, z6, rfl⟩ := h
      rw [List.length_map, List.take_length]
      walk_at "go"; exact nx _ ⟨_, _, _, _, _, rfl⟩
  · obtain ⟨y2, y3, y4, y5, y6, rfl⟩ := h
    rw [Int.toNat_natCast]
    walk_at "go"
    have hlen := allSh_len (m := m) hm
    walk_at "go"; refine lc_P _ (fun _ => true) (fun d => match d with | .tuple (x :: _) => x | _ => .none) [] n (fun d hd => ?_) (by simp; omega) ?_
    · obtain ⟨⟨sh, op⟩, hq, rfl⟩ := List.mem_map.mp hd
      exact ⟨_, rfl, fun n R r => r, fun _ n R r => r⟩
    · rw [List.filter_eq_self.mpr (fun _ _ => rfl), List.map_map]
      walk_at "go"; exact q
end
end Lw
/-! what claims demand: gaps between entries, least rows -/
namespace Gp
open PySem PySem.Spec PyProof.Rows L2 Gd Dl Sh Cl
def wt (p o : Nat) : Int := if o < p then 1 else 0
theorem wt_nn (p o : Nat) : 0 ≤ wt p o := by unfold wt; split <;> decide
theorem wt_tri (i k j : Nat) : wt i j ≤ wt i k + wt k j := by
  unfold wt
  split <;> split <;> split <;> omega
theorem wt_self (p : Nat) : wt p p = 0 := by unfold wt; rw [if_neg (Nat.lt_irrefl _)]
def Sol (cs : List Cm) (e : Nat → Int) : Prop := ∀ c ∈ cs, ∀ o, c.f ≤ o → o ≤ c.l → e c.p + wt c.p o ≤ e o
/-! ### minima and maxima -/
theorem minI_spec : ∀ (x : Int) (xs : List Int), minI (x :: xs) ∈ x :: xs ∧ ∀ y ∈ x :: xs, minI (x :: xs) ≤ y
  | x, [] => ⟨List.mem_cons_self, fun y hy => by rcases List.mem_singleton.mp hy with rfl; exact Int.le_refl _⟩
  | x, z :: zs => by
    obtain ⟨h1, h2⟩ := minI_spec z zs
    show (if minI (z :: zs) ≤ x then minI (z :: zs) else x) ∈ _ ∧ _
    by_cases h : minI (z :: zs) ≤ x
    · have e : minI (x :: z :: zs) = minI (z :: zs) := by show (if minI (z :: zs) ≤ x then _ else _) = _; rw [if_pos h]
      rw [if_pos h, e]
      refine ⟨List.mem_cons_of_mem _ h1, fun y hy => ?_⟩
      rcases List.mem_cons.mp hy with rfl | hy
      · exact h
      · exact h2 y hy
    · have e : minI (x :: z :: zs) = x := by show (if minI (z :: zs) ≤ x then _ else _) = _; rw [if_neg h]
      rw [if_neg h, e]
      refine ⟨List.mem_cons_self, fun y hy => ?_⟩
      rcases List.mem_cons.mp hy with rfl | hy
      · exact Int.le_refl _
      · have := h2 y hy
        omega
theorem maxI_spec : ∀ (x : Int) (xs : List Int), maxI (x :: xs) ∈ x :: xs ∧ ∀ y ∈ x :: xs, y ≤ maxI (x :: xs)
  | x, [] => ⟨List.mem_cons_self, fun y hy => by rcases List.mem_singleton.mp hy with rfl; exact Int.le_refl _⟩
  | x, z :: zs => by
    obtain ⟨h1, h2⟩ := maxI_spec z zs
    show (if x ≤ maxI (z :: zs) then maxI (z :: zs) else x) ∈ _ ∧ _
    by_cases h : x ≤ maxI (z :: zs)
    · have e : maxI (x :: z :: zs) = maxI (z :: zs) := by show (if x ≤ maxI (z :: zs) then _ else _) = _; rw [if_pos h]
      rw [if_pos h, e]
      refine ⟨List.mem_cons_of_mem _ h1, fun y hy => ?_⟩
      rcases List.mem_cons.mp hy with rfl | hy
      · exact h
      · exact h2 y hy
    · have e : maxI (x :: z :: zs) = x := by show (if x ≤ maxI (z :: zs) then _ else _) = _; rw [if_neg h]
      rw [if_neg h, e]
      refine ⟨List.mem_cons_self, fun y hy => ?_⟩
      rcases List.mem_cons.mp hy with rfl | hy
      · exact Int.le_refl _
      · have := h2 y hy
        omega
/-! ### direct gaps -/
def at' (cs : List Cm) (p : Nat) : List Cm := cs.filter fun c => decide (c.p = p)
def lowOf (cs : List Cm) (p : Nat) : Int := minI ((p : Int) :: (at' cs p).map fun c => (c.f : Int))
def highOf (cs : List Cm) (p : Nat) : Int := maxI ((p : Int) :: (at' cs p).map fun c => (c.l : Int))
def Dg (cs : List Cm) (p o : Nat) : Option Int := if lowOf cs p ≤ (o : Int) ∧ (o : Int) ≤ highOf cs p then some (wt p o) else none
def Edge (cs : List Cm) (p o : Nat) : Prop := ∃ c ∈ cs, c.p = p ∧ c.f ≤ o ∧ o ≤ c.l
theorem at_mem {cs : List Cm} {p : Nat} {c : Cm} : c ∈ at' cs p ↔ c ∈ cs ∧ c.p = p := by
  unfold at'
  rw [List.mem_filter, decide_eq_true_iff]
theorem Dg_some {cs : List Cm} {n p o : Nat} {g : Int} (ok : ∀ c ∈ cs, c.ok n) (h : Dg cs p o = some g) : g = wt p o ∧ (o = p ∨ Edge cs p o) := by
  unfold Dg at h
  split at h
  · rename_i hh
    cases h
    refine ⟨rfl, ?_⟩
    by_cases e : o = p
    · exact .inl e
    refine .inr ?_
    by_cases lt : o < p
    · have := (minI_spec (p : Int) ((at' cs p).map fun c => (c.f : Int))).1
      rcases List.mem_cons.mp this with z | z
      · have : lowOf cs p = p := z
        omega
      · obtain ⟨c, hc, z⟩ := List.mem_map.mp z
        have z' : lowOf cs p = c.f := z.symm
        obtain ⟨c1, c2⟩ := at_mem.mp hc
        obtain ⟨k1, k2, k3⟩ := ok c c1
        exact ⟨c, c1, c2, by omega, by omega⟩
    · have := (maxI_spec (p : Int) ((at' cs p).map fun c => (c.l : Int))).1
      rcases List.mem_cons.mp this with z | z
      · have : highOf cs p = p := z
        omega
      · obtain ⟨c, hc, z⟩ := List.mem_map.mp z
        have z' : highOf cs p = c.l := z.symm
        obtain ⟨c1, c2⟩ := at_mem.mp hc
        obtain ⟨k1, k2, k3⟩ := ok c c1
        exact ⟨c, c1, c2, by omega, by omega⟩
  · cases h
theorem Dg_of {cs : List Cm} {p o : Nat} (h : o = p ∨ Edge cs p o) : Dg cs p o = some (wt p o) := by
  have lo := (minI_spec (p : Int) ((at' cs p).map fun c => (c.f : Int))).2
  have hi := (maxI_spec (p : Int) ((at' cs p).map fun c => (c.l : Int))).2
  unfold Dg
  rw [if_pos]
  rcases h with rfl | ⟨c, hc, h1, h2, h3⟩
  · exact ⟨lo _ List.mem_cons_self, hi _ List.mem_cons_self⟩
  · have hm := at_mem.mpr ⟨hc, h1⟩
    have a := lo _ (List.mem_cons_of_mem _ (List.mem_map.mpr ⟨c, hm, rfl⟩))
    have b := hi _ (List.mem_cons_of_mem _ (List.mem_map.mpr ⟨c, hm, rfl⟩))
    have a' : lowOf cs p ≤ (c.f : Int) := a
    have b' : (c.l : Int) ≤ highOf cs p := b
    omega
/-! ### all gaps -/
abbrev Gm := Nat → Nat → Option Int
def gg : Option Int → Option Int → Option Int → Option Int
  | k, some x, some y => match k with
    | none => some (x + y)
    | some z => some (if x + y > z then x + y else z)
  | k, _, _ => k
theorem gg_keep {k a b : Option Int} {z : Int} (h : k = some z) : ∃ y, gg k a b = some y ∧ z ≤ y := by
  subst h
  cases a with
  | none => exact ⟨z, rfl, Int.le_refl _⟩
  | some x =>
    cases b with
    | none => exact ⟨z, rfl, Int.le_refl _⟩
    | some y =>
      refine ⟨_, rfl, ?_⟩
      split <;> omega
theorem gg_sum {k : Option Int} {x y : Int} : ∃ z, gg k (some x) (some y) = some z ∧ x + y ≤ z := by
  cases k with
  | none => exact ⟨_, rfl, Int.le_refl _⟩
  | some z =>
    refine ⟨_, rfl, ?_⟩
    split <;> omega
theorem gg_el {k a b : Option Int} {z : Int} (h : gg k a b = some z) : k = some z ∨ ∃ x y, a = some x ∧ b = some y ∧ z = x + y := by
  cases a with
  | none => exact .inl h
  | some x =>
    cases b with
    | none => exact .inl h
    | some y =>
      cases k with
      | none => exact .inr ⟨x, y, rfl, rfl, (Option.some.inj h).symm⟩
      | some w =>
        have h' : (if x + y > w then x + y else w) = z := Option.some.inj h
        split at h'
        · exact .inr ⟨x, y, rfl, rfl, h'.symm⟩
        · exact .inl (by rw [h'])
def stp (k : Nat) (G : Gm) : Gm := fun i j => gg (G i j) (G i k) (G k j)
def fw (cs : List Cm) : Nat → Gm
  | 0 => Dg cs
  | k + 1 => stp k (fw cs k)
section
variable {cs : List Cm} {n : Nat}
theorem fw_mono {k i j : Nat} {g : Int} (h : fw cs k i j = some g) : ∀ d, ∃ g', fw cs (k + d) i j = some g' ∧ g ≤ g'
  | 0 => ⟨g, h, Int.le_refl _⟩
  | d + 1 => by
    obtain ⟨g', h1, h2⟩ := fw_mono h d
    obtain ⟨y, h3, h4⟩ := gg_keep (a := fw cs (k + d) i (k + d)) (b := fw cs (k + d) (k + d) j) h1
    exact ⟨y, h3, by omega⟩
theorem fw_sound (ok : ∀ c ∈ cs, c.ok n) {e : Nat → Int} (s : Sol cs e) : ∀ {k i j : Nat} {g : Int}, fw cs k i j = some g → e i + g ≤ e j
  | 0, i, j, g, h => by
    obtain ⟨rfl, h | ⟨c, hc, h1, h2, h3⟩⟩ := Dg_some ok h
    · subst h
      rw [wt_self]
      omega
    · have := s c hc j h2 h3
      rw [h1] at this
      exact this
  | k + 1, i, j, g, h => by
    rcases gg_el h with h | ⟨x, y, h1, h2, rfl⟩
    · exact fw_sound ok s h
    · have a := fw_sound ok s h1
      have b := fw_sound ok s h2
      omega
theorem fw_wt (ok : ∀ c ∈ cs, c.ok n) : ∀ {k i j : Nat} {g : Int}, fw cs k i j = some g → wt i j ≤ g
  | 0, i, j, g, h => by
    obtain ⟨rfl, _⟩ := Dg_some ok h
    exact Int.le_refl _
  | k + 1, i, j, g, h => by
    rcases gg_el h with h | ⟨x, y, h1, h2, rfl⟩
    · exact fw_wt ok h
    · have a := fw_wt ok h1
      have b := fw_wt ok h2
      have := wt_tri i k j
      omega
theorem fw_diag (k i : Nat) : ∃ g, fw cs k i i = some g ∧ 0 ≤ g := by
  have h := Dg_of (cs := cs) (p := i) (o := i) (.inl rfl)
  rw [wt_self] at h
  obtain ⟨g, h1, h2⟩ := fw_mono (cs := cs) (k := 0) h k
  rw [Nat.zero_add] at h1
  exact ⟨g, h1, h2⟩
/-- no entry must exceed itself -/
def Calm (cs : List Cm) (n : Nat) : Prop := ∀ i, i < n → fw cs n i i = some 0
theorem calm_at (h : Calm cs n) {k i : Nat} (hk : k ≤ n) (hi : i < n) : fw cs k i i = some 0 := by
  obtain ⟨g, h1, h2⟩ := fw_diag (cs := cs) k i
  obtain ⟨g', h3, h4⟩ := fw_mono h1 (n - k)
  rw [show k + (n - k) = n by omega, h i hi] at h3
  have := Option.some.inj h3
  rw [h1]
  congr 1
  omega
theorem fw_closed (h : Calm cs n) : ∀ k, k ≤ n → ∀ m, m < k → ∀ i j a b, fw cs k i m = some a → fw cs k m j = some b → ∃ c, fw cs k i j = some c ∧ a + b ≤ c
  | 0, _, m, hm, _, _, _, _, _, _ => by omega
  | k + 1, hk, m, hm, i, j, a, b, ha, hb => by
    have ih := fw_closed h k (by omega)
    have kk := calm_at h (k := k) (i := k) (by omega) (by omega)
    have keep : ∀ {i j : Nat} {z : Int}, fw cs k i j = some z → ∃ y, fw cs (k + 1) i j = some y ∧ z ≤ y := fun e => gg_keep e
    have sum : ∀ {x y : Int}, fw cs k i k = some x → fw cs k k j = some y → ∃ z, fw cs (k + 1) i j = some z ∧ x + y ≤ z := by
      intro x y e1 e2
      show ∃ z, gg _ (fw cs k i k) (fw cs k k j) = some z ∧ _
      rw [e1, e2]
      exact gg_sum
    -- to and from k nothing changes
    have tok : ∀ {i : Nat} {z : Int}, fw cs (k + 1) i k = some z → fw cs k i k = some z := by
      intro i z e
      rcases gg_el e with e | ⟨x, y, e1, e2, rfl⟩
      · exact e
      · rw [kk] at e2
        cases e2
        rw [Int.add_zero]
        exact e1
    have frk : ∀ {j : Nat} {z : Int}, fw cs (k + 1) k j = some z → fw cs k k j = some z := by
      intro j z e
      rcases gg_el e with e | ⟨x, y, e1, e2, rfl⟩
      · exact e
      · rw [kk] at e1
        cases e1
        rw [Int.zero_add]
        exact e2
    by_cases em : m = k
    · subst em
      exact sum (tok ha) (frk hb)
    · have hm' : m < k := by omega
      rcases gg_el ha with ha | ⟨x, y, a1, a2, rfl⟩
      · rcases gg_el hb with hb | ⟨x', y', b1, b2, rfl⟩
        · obtain ⟨c, c1, c2⟩ := ih m hm' i j a b ha hb
          obtain ⟨d, d1, d2⟩ := keep c1
          exact ⟨d, d1, by omega⟩
        · obtain ⟨c, c1, c2⟩ := ih m hm' i k a x' ha b1
          obtain ⟨d, d1, d2⟩ := sum c1 b2
          exact ⟨d, d1, by omega⟩
      · rcases gg_el hb with hb | ⟨x', y', b1, b2, rfl⟩
        · obtain ⟨c, c1, c2⟩ := ih m hm' k j y b a2 hb
          obtain ⟨d, d1, d2⟩ := sum a1 c1
          exact ⟨d, d1, by omega⟩
        · obtain ⟨c, c1, c2⟩ := ih m hm' k k y x' a2 b1
          rw [kk] at c1
          cases c1
          obtain ⟨d, d1, d2⟩ := sum a1 b2
          exact ⟨d, d1, by omega⟩
theorem fw_trans (h : Calm cs n) {i m j : Nat} {a b : Int} (hm : m < n) (ha : fw cs n i m = some a) (hb : fw cs n m j = some b) : ∃ c, fw cs n i j = some c ∧ a + b ≤ c := fw_closed h n (Nat.le_refl _) m hm i j a b ha hb
theorem fw_edge {p o : Nat} (h : o = p ∨ Edge cs p o) : ∃ g, fw cs n p o = some g ∧ wt p o ≤ g := by
  obtain ⟨g, h1, h2⟩ := fw_mono (cs := cs) (k := 0) (Dg_of h) n
  rw [Nat.zero_add] at h1
  exact ⟨g, h1, h2⟩
/-! ### the least row -/
def col (cs : List Cm) (n o : Nat) : List Int := (List.range n).filterMap fun p => fw cs n p o
def low (cs : List Cm) (n o : Nat) : Int := maxI (col cs n o)
theorem col_spec {o : Nat} (ho : o < n) : low cs n o ∈ col cs n o ∧ ∀ y ∈ col cs n o, y ≤ low cs n o := by
  obtain ⟨g, h1, _⟩ := fw_diag (cs := cs) n o
  have : g ∈ col cs n o := List.mem_filterMap.mpr ⟨o, List.mem_range.mpr ho, h1⟩
  unfold low
  cases e : col cs n o with
  | nil => rw [e] at this; cases this
  | cons x xs => exact maxI_spec x xs
theorem low_ge {p o : Nat} {g : Int} (hp : p < n) (ho : o < n) (h : fw cs n p o = some g) : g ≤ low cs n o := (col_spec ho).2 g (List.mem_filterMap.mpr ⟨p, List.mem_range.mpr hp, h⟩)
theorem low_at {o : Nat} (ho : o < n) : ∃ p, p < n ∧ fw cs n p o = some (low cs n o) := by
  obtain ⟨p, hp, h⟩ := List.mem_filterMap.mp (col_spec (cs := cs) ho).1
  exact ⟨p, List.mem_range.mp hp, h⟩
theorem low_nn {o : Nat} (ho : o < n) : 0 ≤ low cs n o := by
  obtain ⟨g, h1, h2⟩ := fw_diag (cs := cs) n o
  have := low_ge ho ho h1
  omega
theorem low_sol (ok : ∀ c ∈ cs, c.ok n) (h : Calm cs n) : Sol cs (low cs n) := by
  intro c hc o h1 h2
  obtain ⟨k1, k2, k3⟩ := ok c hc
  obtain ⟨q, q1, q2⟩ := low_at (cs := cs) (n := n) (o := c.p) (by omega)
  obtain ⟨g, g1, g2⟩ := fw_edge (cs := cs) (n := n) (p := c.p) (o := o) (.inr ⟨c, hc, rfl, h1, h2⟩)
  obtain ⟨d, d1, d2⟩ := fw_trans h (by omega) q2 g1
  have := low_ge q1 (by omega) d1
  omega
theorem low_le (ok : ∀ c ∈ cs, c.ok n) {e : Nat → Int} (s : Sol cs e) (nn : ∀ i, i < n → 0 ≤ e i) {o : Nat} (ho : o < n) : low cs n o ≤ e o := by
  obtain ⟨p, hp, h⟩ := low_at (cs := cs) ho
  have := fw_sound ok s h
  have := nn p hp
  omega
theorem calm_of_sol (ok : ∀ c ∈ cs, c.ok n) {e : Nat → Int} (s : Sol cs e) : Calm cs n := by
  intro i hi
  obtain ⟨g, h1, h2⟩ := fw_diag (cs := cs) n i
  have := fw_sound ok s h1
  rw [h1]
  congr 1
  omega
/-- what fulfil and the law's own search tell -/
def IsLst (n : Nat) (cs : List Cm) (e : List Int) : Prop := e.length = n ∧ ∀ i, i < n → en e i = low cs n i
def LowR (n : Nat) (cs : List Cm) (d : PyData) : Prop := (Calm cs n ∧ ∃ e, d = tupI e ∧ IsLst n cs e) ∨ (¬ Calm cs n ∧ d = .none)
theorem IsLst.eq {e f : List Int} (h : IsLst n cs e) (g : IsLst n cs f) : e = f := by
  refine List.ext_getElem (h.1.trans g.1.symm) fun i h1 h2 => ?_
  have a := h.2 i (by rw [← h.1]; exact h1)
  have b := g.2 i (by rw [← h.1]; exact h1)
  unfold en at a b
  rw [List.getD_eq_getElem?_getD, List.getElem?_eq_getElem h1] at a
  rw [List.getD_eq_getElem?_getD, List.getElem?_eq_getElem h2] at b
  exact a.trans b.symm
theorem LowR.eq {d e : PyData} (h : LowR n cs d) (g : LowR n cs e) : d = e := by
  rcases h with ⟨a, x, rfl, hx⟩ | ⟨a, rfl⟩
  · rcases g with ⟨_, y, rfl, hy⟩ | ⟨b, rfl⟩
    · rw [hx.eq hy]
    · exact (b a).elim
  · rcases g with ⟨b, y, rfl, hy⟩ | ⟨b, rfl⟩
    · exact (a b).elim
    · rfl
end
/-! ### raising entries round by round -/
def Rd (n : Nat) (cs : List Cm) (e r : Nat → Int) : Prop := ∀ o, o < n → e o ≤ r o ∧ (∀ c ∈ cs, c.f ≤ o → o ≤ c.l → o ≠ c.p → e c.p + wt c.p o ≤ r o) ∧ (r o = e o ∨ ∃ c ∈ cs, c.f ≤ o ∧ o ≤ c.l ∧ o ≠ c.p ∧ r o = e c.p + wt c.p o)
section
variable {cs : List Cm} {n : Nat}
theorem Rd.fix (ok : ∀ c ∈ cs, c.ok n) {e r : Nat → Int} (h : Rd n cs e r) (z : ∀ o, o < n → r o = e o) : Sol cs e := by
  intro c hc o h1 h2
  obtain ⟨k1, k2, k3⟩ := ok c hc
  by_cases eo : o = c.p
  · rw [eo, wt_self]; omega
  · have := (h o (by omega)).2.1 c hc h1 h2 eo
    rw [z o (by omega)] at this
    exact this
theorem Rd.le {e r s : Nat → Int} (ok : ∀ c ∈ cs, c.ok n) (h : Rd n cs e r) (hs : Sol cs s) (le : ∀ o, o < n → e o ≤ s o) : ∀ o, o < n → r o ≤ s o := by
  intro o ho
  rcases (h o ho).2.2 with z | ⟨c, hc, h1, h2, h3, z⟩
  · rw [z]; exact le o ho
  · obtain ⟨k1, k2, k3⟩ := ok c hc
    have a := le c.p (by omega)
    have b := hs c hc o h1 h2
    omega
theorem cnt_lt {p q : Nat → Bool} : ∀ (l : List Nat), (∀ x ∈ l, q x = true → p x = true) → (∃ x ∈ l, p x = true ∧ q x = false) → l.countP q < l.countP p
  | [], _, ⟨x, hx, _⟩ => by cases hx
  | y :: l, h, ⟨x, hx, h1, h2⟩ => by
    have mono : l.countP q ≤ l.countP p := List.countP_mono_left fun z hz => h z (List.mem_cons_of_mem _ hz)
    rw [List.countP_cons, List.countP_cons]
    rcases List.mem_cons.mp hx with rfl | hx
    · rw [h1, h2]
      simp
      omega
    · have ih := cnt_lt l (fun z hz => h z (List.mem_cons_of_mem _ hz)) ⟨x, hx, h1, h2⟩
      have hy := h y List.mem_cons_self
      cases hq : q y with
      | true => rw [hy hq]; simp; exact ih
      | false =>
        cases p y <;> simp <;> omega
/-- while something is too small, some entry comes to its least value -/
theorem Rd.prog (ok : ∀ c ∈ cs, c.ok n) (hc : Calm cs n) {e r : Nat → Int} (h : Rd n cs e r) (nn : ∀ o, o < n → 0 ≤ e o) (le : ∀ o, o < n → e o ≤ low cs n o) (bad : ∃ o, o < n ∧ e o ≠ low cs n o) :
    ∃ o, o < n ∧ e o ≠ low cs n o ∧ r o = low cs n o := by
  refine Classical.byContradiction fun no => ?_
  have no : ∀ o, o < n → e o ≠ low cs n o → r o ≠ low cs n o := fun o h1 h2 h3 => no ⟨o, h1, h2, h3⟩
  have sl := low_sol ok hc
  have le2 := h.le ok sl le
  -- the entries that are too small, lowered by one, still fulfil all
  let s : Nat → Int := fun o => if e o ≠ low cs n o then low cs n o - 1 else low cs n o
  have ss : Sol cs s := by
    intro c hcc o h1 h2
    obtain ⟨k1, k2, k3⟩ := ok c hcc
    have a := sl c hcc o h1 h2
    show (if e c.p ≠ low cs n c.p then _ else _) + wt c.p o ≤ (if e o ≠ low cs n o then _ else _)
    by_cases ep : e c.p ≠ low cs n c.p
    · rw [if_pos ep]
      split <;> omega
    · rw [if_neg ep]
      by_cases eo : e o ≠ low cs n o
      · rw [if_pos eo]
        have nop : o ≠ c.p := fun z => by subst z; exact ep eo
        have b := (h o (by omega)).2.1 c hcc h1 h2 nop
        have c1 := no o (by omega) eo
        have c2 := le2 o (by omega)
        have ep' : e c.p = low cs n c.p := Classical.not_not.mp ep
        omega
      · rw [if_neg eo]
        exact a
  obtain ⟨o, ho, hb⟩ := bad
  have sn : ∀ i, i < n → 0 ≤ s i := by
    intro i hi
    show 0 ≤ (if e i ≠ low cs n i then _ else _)
    by_cases ei : e i ≠ low cs n i
    · rw [if_pos ei]
      have := nn i hi
      have := le i hi
      omega
    · rw [if_neg ei]
      exact low_nn hi
  have := low_le ok ss sn ho
  have e1 : s o = low cs n o - 1 := by show (if e o ≠ low cs n o then _ else _) = _; rw [if_pos hb]
  omega
/-- how many are too small -/
def few (cs : List Cm) (n : Nat) (e : Nat → Int) : Nat := (List.range n).countP fun o => decide (e o ≠ low cs n o)
theorem few_zero {e : Nat → Int} (h : few cs n e = 0) : ∀ o, o < n → e o = low cs n o := by
  intro o ho
  have := List.countP_eq_zero.mp h o (List.mem_range.mpr ho)
  simpa using this
theorem Rd.fewer (ok : ∀ c ∈ cs, c.ok n) (hc : Calm cs n) {e r : Nat → Int} (h : Rd n cs e r) (nn : ∀ o, o < n → 0 ≤ e o) (le : ∀ o, o < n → e o ≤ low cs n o) : few cs n r ≤ few cs n e - 1 := by
  by_cases bad : ∃ o, o < n ∧ e o ≠ low cs n o
  · obtain ⟨o, ho, h1, h2⟩ := h.prog ok hc nn le bad
    have le2 := h.le ok (low_sol ok hc) le
    have := cnt_lt (p := fun o => decide (e o ≠ low cs n o)) (q := fun o => decide (r o ≠ low cs n o)) (List.range n) (fun x hx hq => ?_) ⟨o, List.mem_range.mpr ho, decide_eq_true h1, decide_eq_false fun z => z h2⟩
    · show (List.range n).countP _ ≤ (List.range n).countP _ - 1
      omega
    · have hx := List.mem_range.mp hx
      have hq := of_decide_eq_true hq
      refine decide_eq_true fun z => hq ?_
      have a := (h x hx).1
      have b := le2 x hx
      omega
  · have : few cs n r = 0 := by
      refine List.countP_eq_zero.mpr fun o ho => ?_
      have ho := List.mem_range.mp ho
      have z : e o = low cs n o := Classical.byContradiction fun z => bad ⟨o, ho, z⟩
      have a := (h o ho).1
      have b := h.le ok (low_sol ok hc) le o ho
      simp
      omega
    omega
end
end Gp
namespace Gp
open PySem PySem.Spec PyProof.Rows L2 Gd Dl Sh Cl
theorem best_eq (ns : List Int) {f p : Nat} (hf : f ≤ p) (h1 : ∀ o, f ≤ o → o < p → en ns p < en ns o) : ∀ k, p ≤ f + k → (∀ o, p < o → o ≤ f + k → en ns p ≤ en ns o) → best ns f k = p
  | 0, hp, h2 => by
    have : p = f := by omega
    subst this
    rfl
  | k + 1, hp, h2 => by
    have bb := best_bd ns f k
    show (if en ns (f + k + 1) < en ns (best ns f k) then f + k + 1 else best ns f k) = p
    by_cases e : p = f + k + 1
    · subst e
      rw [if_pos (h1 _ (by omega) (by omega))]
    · rw [best_eq ns hf h1 k (by omega) (fun o a b => h2 o a (by omega)), if_neg]
      have := h2 (f + k + 1) (by omega) (by omega)
      omega
theorem sol_holds {cs : List Cm} {n : Nat} {e : List Int} (ok : ∀ c ∈ cs, c.ok n) (s : Sol cs (en e)) : (cs.all fun c => holds e c) = true := by
  rw [List.all_eq_true]
  intro c hc
  obtain ⟨k1, k2, k3⟩ := ok c hc
  refine decide_eq_true (best_eq e k1 (fun o a b => ?_) _ (by omega) (fun o a b => ?_))
  · have := s c hc o a (by omega)
    unfold wt at this
    rw [if_pos b] at this
    omega
  · have := s c hc o (by omega) (by omega)
    have := wt_nn c.p o
    omega
theorem best_first (ns : List Int) (f : Nat) : ∀ k o, f ≤ o → o < best ns f k → en ns (best ns f k) < en ns o
  | 0, o, h1, h2 => by
    have : best ns f 0 = f := rfl
    omega
  | k + 1, o, h1, h2 => by
    have bb := best_bd ns f k
    have e : best ns f (k + 1) = if en ns (f + k + 1) < en ns (best ns f k) then f + k + 1 else best ns f k := rfl
    by_cases h : en ns (f + k + 1) < en ns (best ns f k)
    · rw [if_pos h] at e
      rw [e] at h2 ⊢
      have := best_min ns f k o h1 (by omega)
      omega
    · rw [if_neg h] at e
      rw [e] at h2 ⊢
      exact best_first ns f k o h1 h2
theorem holds_sol {cs : List Cm} {n : Nat} {e : List Int} (ok : ∀ c ∈ cs, c.ok n) (h : (cs.all fun c => holds e c) = true) : Sol cs (en e) := by
  intro c hc o h1 h2
  have hh := of_decide_eq_true (List.all_eq_true.mp h c hc)
  obtain ⟨k1, k2, k3⟩ := ok c hc
  unfold wt
  by_cases lt : o < c.p
  · rw [if_pos lt]
    have := best_first e c.f (c.l - c.f) o h1 (by rw [hh]; exact lt)
    rw [hh] at this
    omega
  · rw [if_neg lt]
    have := best_min e c.f (c.l - c.f) o h1 (by omega)
    rw [hh] at this
    omega
theorem lst_holds {cs : List Cm} {n : Nat} {e : List Int} (ok : ∀ c ∈ cs, c.ok n) (hC : Calm cs n) (h : IsLst n cs e) : (cs.all fun c => holds e c) = true := by
  refine sol_holds ok fun c hc o h1 h2 => ?_
  obtain ⟨k1, k2, k3⟩ := ok c hc
  rw [h.2 c.p (by omega), h.2 o (by omega)]
  exact low_sol ok hC c hc o h1 h2
end Gp
namespace Gp
open PySem PySem.Spec PyProof.Rows L2 Gd Dl Sh Cl
section
variable {cs : List Cm} {n : Nat}
theorem calm_iff (ok : ∀ c ∈ cs, c.ok n) : Calm cs n ↔ ∃ e, Sol cs e := ⟨fun h => ⟨_, low_sol ok h⟩, fun ⟨_, h⟩ => calm_of_sol ok h⟩
theorem ok_app {c : Cm} (ok : ∀ c ∈ cs, c.ok n) (hc : c.ok n) : ∀ d ∈ cs ++ [c], d.ok n := fun d hd => (List.mem_append.mp hd).elim (ok d) fun z => by rcases List.mem_singleton.mp z with rfl; exact hc
theorem calm_app {c : Cm} (ok : ∀ c ∈ cs, c.ok n) (hc : c.ok n) (h : Calm (cs ++ [c]) n) : Calm cs n :=
  calm_of_sol ok (e := low (cs ++ [c]) n) fun d hd => low_sol (ok_app ok hc) h d (List.mem_append_left _ hd)
theorem pos_iff {f l p : Nat} (ok : ∀ c ∈ cs, c.ok n) (hc : (⟨f, l, p⟩ : Cm).ok n) : Calm (cs ++ [⟨f, l, p⟩]) n ↔ Calm cs n ∧ ∀ o, f ≤ o → o ≤ l → o ≠ p → fw cs n o p = none := by
  obtain ⟨c1, c2, c3⟩ := hc
  dsimp only at c1 c2 c3
  have okk := ok_app ok (c := ⟨f, l, p⟩) ⟨c1, c2, c3⟩
  constructor
  · intro h
    refine ⟨calm_app ok ⟨c1, c2, c3⟩ h, fun o h1 h2 h3 => ?_⟩
    cases e : fw cs n o p with
    | none => rfl
    | some g =>
      have s := low_sol okk h
      have a := fw_sound ok (e := low (cs ++ [⟨f, l, p⟩]) n) (fun d hd => s d (List.mem_append_left _ hd)) e
      have b := s ⟨f, l, p⟩ (List.mem_append_right _ List.mem_cons_self) o h1 h2
      have w := fw_wt ok e
      dsimp only at b
      unfold wt at b w
      split at b <;> split at w <;> omega
  · rintro ⟨hC, h⟩
    refine (calm_iff okk).mpr ?_
    -- what must be at least some other entry of the window is raised by so much
    let U : Nat → Prop := fun q => ∃ o, f ≤ o ∧ o ≤ l ∧ o ≠ p ∧ ∃ g, fw cs n o q = some g
    have s := low_sol ok hC
    have cl : ∀ c ∈ cs, ∀ o, c.f ≤ o → o ≤ c.l → U c.p → U o := by
      rintro c hc o h1 h2 ⟨q, q1, q2, q3, g, q4⟩
      obtain ⟨k1, k2, k3⟩ := ok c hc
      obtain ⟨g', e1, _⟩ := fw_edge (cs := cs) (n := n) (p := c.p) (o := o) (.inr ⟨c, hc, rfl, h1, h2⟩)
      obtain ⟨d, d1, _⟩ := fw_trans hC (by omega) q4 e1
      exact ⟨q, q1, q2, q3, d, d1⟩
    have np : ¬ U p := by
      rintro ⟨q, q1, q2, q3, g, q4⟩
      rw [h q q1 q2 q3] at q4
      cases q4
    classical
    refine ⟨fun q => if U q then low cs n q + low cs n p + 1 else low cs n q, fun c hc o h1 h2 => ?_⟩
    rcases List.mem_append.mp hc with hc | hc
    · obtain ⟨k1, k2, k3⟩ := ok c hc
      have a := s c hc o h1 h2
      have z := low_nn (cs := cs) (n := n) (o := p) (by omega)
      by_cases u : U c.p
      · simp only [u, cl c hc o h1 h2 u, if_true]
        omega
      · simp only [u, if_false]
        split <;> omega
    · rcases List.mem_singleton.mp hc with rfl
      dsimp only at h1 h2 ⊢
      by_cases e : o = p
      · subst e
        rw [wt_self]
        simp only [np, if_false]
        omega
      · have u : U o := by
          obtain ⟨g, g1, _⟩ := fw_diag (cs := cs) n o
          exact ⟨o, h1, h2, e, g, g1⟩
        simp only [np, u, if_false, if_true]
        have z := low_nn (cs := cs) (n := n) (o := o) (by omega)
        have : wt p o ≤ 1 := by unfold wt; split <;> omega
        omega
end
open Classical in
noncomputable def pb (cs : List Cm) (n f l i : Nat) : Bool := decide (Calm (cs ++ [⟨f, l, f + i⟩]) n)
noncomputable def plc (cs : List Cm) (n f l k : Nat) : List Int := ((List.range k).filter (pb cs n f l)).map fun i => ((f + i : Nat) : Int)
theorem pb_iff {cs : List Cm} {n f l i : Nat} : pb cs n f l i = true ↔ Calm (cs ++ [⟨f, l, f + i⟩]) n := by
  unfold pb
  exact @decide_eq_true_iff _ (Classical.propDecidable _)
theorem plc_succ (cs : List Cm) (n f l k : Nat) : plc cs n f l (k + 1) = plc cs n f l k ++ if pb cs n f l k then [((f + k : Nat) : Int)] else [] := by
  unfold plc
  rw [List.range_succ, List.filter_append, List.map_append, List.filter_cons, List.filter_nil]
  cases pb cs n f l k <;> rfl
theorem plc_mem {cs : List Cm} {n f l k : Nat} {x : Int} (h : x ∈ plc cs n f l k) : (f : Int) ≤ x ∧ x < f + k := by
  unfold plc at h
  obtain ⟨i, hi, rfl⟩ := List.mem_map.mp h
  have := List.mem_range.mp (List.mem_filter.mp hi).1
  omega
theorem plc_len {cs : List Cm} {n f l k : Nat} : (plc cs n f l k).length ≤ k := by
  unfold plc
  rw [List.length_map]
  have := List.length_filter_le (pb cs n f l) (List.range k)
  rw [List.length_range] at this
  exact this
theorem plc_none {cs : List Cm} {n f l k : Nat} (ok : ∀ c ∈ cs, c.ok n) (hk : f + k ≤ l + 1) (hl : l < n) (h : ¬ Calm cs n) : plc cs n f l k = [] := by
  unfold plc
  rw [List.map_eq_nil_iff, List.filter_eq_nil_iff]
  intro i hi z
  have hi := List.mem_range.mp hi
  exact h (calm_app ok (c := ⟨f, l, f + i⟩) ⟨by show f ≤ f + i; omega, by show f + i ≤ l; omega, hl⟩ (pb_iff.mp z))
theorem plc_nodup (cs : List Cm) (n f l k : Nat) : (plc cs n f l k).Nodup := by
  unfold plc
  refine List.Pairwise.map _ (fun a b h => ?_) (List.Pairwise.filter _ (List.nodup_range (n := k)))
  intro z
  exact h (by omega)
theorem all_eq {L : List Int} {p : Int} (h : L.Nodup) : (L.all fun x => decide (x = p)) = (decide (L = []) || decide (L = [p])) := by
  match L, h with
  | [], _ => rfl
  | [x], _ =>
    rw [Bool.eq_iff_iff]
    simp
  | x :: y :: r, h =>
    have hxy : x ≠ y := fun e => by
      subst e
      have := List.nodup_cons.mp h
      exact this.1 List.mem_cons_self
    rw [Bool.eq_iff_iff]
    simp
    intro a b
    exact (hxy (a.trans b.symm)).elim
noncomputable def flw (cs : List Cm) (n : Nat) (c : Cm) : Bool := (plc cs n c.f c.l (c.l + 1 - c.f)).all fun x => decide (x = (c.p : Int))
end Gp
namespace Gp
open PySem PySem.Spec PyProof.Rows L2 Gd Dl Sh Cl
section
variable {cs : List Cm} {n : Nat}
theorem low_zero (ok : ∀ c ∈ cs, c.ok n) (h : Calm cs n) (hn : 0 < n) : ∃ o, o < n ∧ low cs n o = 0 := by
  refine Classical.byContradiction fun no => ?_
  have pos : ∀ o, o < n → 0 < low cs n o := fun o ho => by
    have := low_nn (cs := cs) ho
    have : low cs n o ≠ 0 := fun z => no ⟨o, ho, z⟩
    omega
  have s : Sol cs (fun o => low cs n o - 1) := fun c hc o h1 h2 => by
    have := low_sol ok h c hc o h1 h2
    show low cs n c.p - 1 + _ ≤ low cs n o - 1
    omega
  have := low_le ok s (fun i hi => by have := pos i hi; show 0 ≤ low cs n i - 1; omega) hn
  have : low cs n 0 ≤ low cs n 0 - 1 := this
  omega
def nxt (cs : List Cm) (e : Nat → Int) (o : Nat) : Int := maxI (e o :: (cs.filter fun c => decide (c.f ≤ o ∧ o ≤ c.l ∧ o ≠ c.p)).map fun c => e c.p + wt c.p o)
theorem nxt_rd (cs : List Cm) (n : Nat) (e : Nat → Int) : Rd n cs e (nxt cs e) := by
  intro o ho
  obtain ⟨h1, h2⟩ := maxI_spec (e o) ((cs.filter fun c => decide (c.f ≤ o ∧ o ≤ c.l ∧ o ≠ c.p)).map fun c => e c.p + wt c.p o)
  refine ⟨h2 _ List.mem_cons_self, fun c hc a b d => h2 _ (List.mem_cons_of_mem _ (List.mem_map.mpr ⟨c, List.mem_filter.mpr ⟨hc, decide_eq_true ⟨a, b, d⟩⟩, rfl⟩)), ?_⟩
  rcases List.mem_cons.mp h1 with z | z
  · exact .inl z
  · obtain ⟨c, hc, z⟩ := List.mem_map.mp z
    obtain ⟨hc, hd⟩ := List.mem_filter.mp hc
    obtain ⟨a, b, d⟩ := of_decide_eq_true hd
    exact .inr ⟨c, hc, a, b, d, z.symm⟩
def rnd (cs : List Cm) : Nat → Nat → Int
  | 0 => fun _ => 0
  | t + 1 => nxt cs (rnd cs t)
theorem rnd_bd (ok : ∀ c ∈ cs, c.ok n) (h : Calm cs n) (hn : 0 < n) : ∀ t, (∀ o, o < n → 0 ≤ rnd cs t o ∧ rnd cs t o ≤ t ∧ rnd cs t o ≤ low cs n o) ∧ few cs n (rnd cs t) ≤ n - 1 - t
  | 0 => by
    refine ⟨fun o ho => ⟨Int.le_refl _, Int.le_refl _, low_nn ho⟩, ?_⟩
    obtain ⟨o, ho, z⟩ := low_zero ok h hn
    have := cnt_lt (p := fun _ => true) (q := fun o => decide (rnd cs 0 o ≠ low cs n o)) (List.range n) (fun _ _ _ => rfl) ⟨o, List.mem_range.mpr ho, rfl, decide_eq_false fun y => y (by rw [z]; rfl)⟩
    have l : (List.range n).countP (fun _ => true) = n := by rw [List.countP_true, List.length_range]
    unfold few
    omega
  | t + 1 => by
    obtain ⟨h1, h2⟩ := rnd_bd ok h hn t
    have rd := nxt_rd cs n (rnd cs t)
    have f := rd.fewer ok h (fun o ho => (h1 o ho).1) (fun o ho => (h1 o ho).2.2)
    refine ⟨fun o ho => ?_, ?_⟩
    · have a := (rd o ho).1
      have b := h1 o ho
      have c := rd.le ok (low_sol ok h) (fun o ho => (h1 o ho).2.2) o ho
      refine ⟨by show 0 ≤ nxt cs (rnd cs t) o; omega, ?_, c⟩
      show nxt cs (rnd cs t) o ≤ _
      rcases (rd o ho).2.2 with z | ⟨c, hc, f1, f2, f3, z⟩
      · omega
      · obtain ⟨k1, k2, k3⟩ := ok c hc
        have := (h1 c.p (by omega)).2.1
        have : wt c.p o ≤ 1 := by unfold wt; split <;> omega
        omega
    · show few cs n (nxt cs (rnd cs t)) ≤ _
      omega
theorem low_bd (ok : ∀ c ∈ cs, c.ok n) (h : Calm cs n) {o : Nat} (ho : o < n) : low cs n o < n := by
  obtain ⟨h1, h2⟩ := rnd_bd ok h (by omega) (n - 1)
  have := few_zero (cs := cs) (n := n) (e := rnd cs (n - 1)) (by omega) o ho
  have := (h1 o ho).2.1
  omega
end
/-- all rows with entries below m -/
def allR (m : Nat) : Nat → List (List Int)
  | 0 => [[]]
  | t + 1 => (allR m t).flatMap fun r => (List.range m).map fun e : Nat => r ++ [(e : Int)]
theorem allR_mem {m : Nat} : ∀ {t : Nat} {r : List Int}, r ∈ allR m t ↔ r.length = t ∧ ∀ x ∈ r, 0 ≤ x ∧ x < m
  | 0, r => by
    show r ∈ [[]] ↔ _
    rw [List.mem_singleton]
    constructor
    · rintro rfl
      exact ⟨rfl, fun x hx => by cases hx⟩
    · rintro ⟨h, _⟩
      exact List.eq_nil_of_length_eq_zero h
  | t + 1, r => by
    show r ∈ (allR m t).flatMap _ ↔ _
    rw [List.mem_flatMap]
    constructor
    · rintro ⟨q, hq, hr⟩
      obtain ⟨e, he, rfl⟩ := List.mem_map.mp hr
      have he := List.mem_range.mp he
      obtain ⟨h1, h2⟩ := allR_mem.mp hq
      refine ⟨by simp [h1], fun x hx => ?_⟩
      rcases List.mem_append.mp hx with hx | hx
      · exact h2 x hx
      · rcases List.mem_singleton.mp hx with rfl
        omega
    · rintro ⟨h1, h2⟩
      have hne : r ≠ [] := fun z => by rw [z] at h1; cases h1
      refine ⟨r.dropLast, allR_mem.mpr ⟨by simp [h1], fun x hx => h2 x (List.dropLast_subset r hx)⟩, ?_⟩
      have hl := h2 _ (List.getLast_mem hne)
      refine List.mem_map.mpr ⟨(r.getLast hne).toNat, List.mem_range.mpr (by omega), ?_⟩
      rw [Int.toNat_of_nonneg hl.1]
      exact List.dropLast_concat_getLast hne
theorem allR_len {m : Nat} (hm : m ≤ 4) : ∀ t, t ≤ 4 → (allR m t).length ≤ 4 ^ t
  | 0, _ => Nat.le_refl _
  | t + 1, ht => by
    have ih := allR_len hm t (by omega)
    show ((allR m t).flatMap _).length ≤ _
    rw [List.length_flatMap]
    simp only [List.length_map, List.length_range]
    rw [List.map_const', List.sum_replicate_nat]
    rw [Nat.pow_succ]
    exact Nat.mul_le_mul ih hm
end Gp
/-! Trees there and back (k16). -/
namespace Sh
open PySem PySem.Spec PyProof.Rows L2 Gd Dl
open Gp
def trT (ns : List Int) : Nat → Nat → Nat → Tr
  | 0, _, _ => .nil
  | k + 1, f, s => if s = 0 then .nil else .node (trT ns k f (best ns f (s - 1) - f)) (trT ns k (best ns f (s - 1) + 1) (f + s - 1 - best ns f (s - 1)))
theorem trT_enc (ns : List Int) : ∀ k f s, encT (trT ns k f s) = trD ns k f s
  | 0, _, _ => rfl
  | k + 1, f, s => by
    unfold trT trD
    by_cases h : s = 0
    · rw [if_pos h, if_pos h]; rfl
    · rw [if_neg h, if_neg h, encT, trT_enc ns k, trT_enc ns k]
theorem trT_size (ns : List Int) : ∀ k f s, s ≤ k → (trT ns k f s).size = s
  | 0, _, s, h => by
    have : s = 0 := by omega
    subst this
    rfl
  | k + 1, f, s, h => by
    unfold trT
    by_cases h0 : s = 0
    · rw [if_pos h0, h0]; rfl
    · have b := best_bd ns f (s - 1)
      rw [if_neg h0, Tr.size, trT_size ns k _ _ (by omega), trT_size ns k _ _ (by omega)]
      omega
theorem en_ge {t : Tr} {e : Int} {i : Nat} (h : i < t.size) : e ≤ en (ents t e) i := (ents_ge t e _ (en_mem (by rw [ents_length]; exact h))).1
theorem ents_at {l r : Tr} {e : Int} {i : Nat} : en (ents (.node l r) e) i = if i < l.size then en (ents l (e + 1)) i else if i = l.size then e else en (ents r e) (i - (l.size + 1)) := by
  show en (ents l (e + 1) ++ [e] ++ ents r e) i = _
  rw [en_app, en_app, List.length_append, ents_length, List.length_singleton]
  by_cases h1 : i < l.size
  · rw [if_pos (by omega), if_pos h1, if_pos h1]
  · rw [if_neg h1]
    by_cases h2 : i = l.size
    · rw [if_pos (by omega), if_neg h1, if_pos h2, h2, Nat.sub_self]
      rfl
    · rw [if_neg (by omega), if_neg h2, if_neg h1]
/-- the tree of a tree's entries -/
theorem tree_back : ∀ (t : Tr) (ns : List Int) (f j : Nat) (e : Int), t.size ≤ j → (∀ i, i < t.size → en ns (f + i) = en (ents t e) i) → trD ns j f t.size = encT t
  | .nil, ns, f, j, e, _, _ => by
    cases j with
    | zero => rfl
    | succ j => unfold trD; rw [if_pos (show Tr.nil.size = 0 from rfl)]; rfl
  | .node l r, ns, f, j, e, hj, h => by
    have sz : (Tr.node l r).size = l.size + r.size + 1 := rfl
    obtain ⟨j, rfl⟩ : ∃ j', j = j' + 1 := ⟨j - 1, by omega⟩
    have hroot : en ns (f + l.size) = e := by
      rw [h l.size (by omega), ents_at, if_neg (by omega), if_pos rfl]
    have hl : ∀ i, i < l.size → en ns (f + i) = en (ents l (e + 1)) i := fun i hi => by rw [h i (by omega), ents_at, if_pos hi]
    have hr : ∀ i, i < r.size → en ns (f + l.size + 1 + i) = en (ents r e) i := fun i hi => by
      rw [show f + l.size + 1 + i = f + (l.size + 1 + i) by omega, h (l.size + 1 + i) (by omega), ents_at, if_neg (by omega), if_neg (by omega), show l.size + 1 + i - (l.size + 1) = i by omega]
    have hb : best ns f (l.size + r.size) = f + l.size := by
      refine best_eq ns (by omega) (fun o h1 h2 => ?_) _ (by omega) (fun o h1 h2 => ?_)
      · obtain ⟨i, rfl⟩ : ∃ i, o = f + i := ⟨o - f, by omega⟩
        have := en_ge (t := l) (e := e + 1) (i := i) (by omega)
        rw [hroot, hl i (by omega)]
        omega
      · obtain ⟨i, rfl⟩ : ∃ i, o = f + l.size + 1 + i := ⟨o - (f + l.size + 1), by omega⟩
        have := en_ge (t := r) (e := e) (i := i) (by omega)
        rw [hroot, hr i (by omega)]
        exact this
    unfold trD
    rw [sz, if_neg (by omega), show l.size + r.size + 1 - 1 = l.size + r.size by omega, hb, show f + l.size - f = l.size by omega, show f + (l.size + r.size + 1) - 1 - (f + l.size) = r.size by omega, tree_back l ns f j (e + 1) (by omega) hl, tree_back r ns (f + l.size + 1) j e (by omega) hr]
    rfl
/-- a tree's entries have the least places of the row of which it is the tree -/
theorem best_tree (ns E : List Int) : ∀ (k f s : Nat) (e : Int), s ≤ k → (∀ i, i < s → en E (f + i) = en (ents (trT ns k f s) e) i) → ∀ p m, f ≤ p → p + m < f + s → best E p m = best ns p m
  | 0, f, s, e, hk, h, p, m, h1, h2 => by omega
  | k + 1, f, s, e, hk, h, p, m, h1, h2 => by
    have h0 : s ≠ 0 := by omega
    have b := best_bd ns f (s - 1)
    have bm := best_min ns f (s - 1)
    have bf := best_first ns f (s - 1)
    have eT : trT ns (k + 1) f s = .node (trT ns k f (best ns f (s - 1) - f)) (trT ns k (best ns f (s - 1) + 1) (f + s - 1 - best ns f (s - 1))) := by
      show (if s = 0 then _ else _) = _
      rw [if_neg h0]
    rw [eT] at h
    generalize best ns f (s - 1) = r at b bm bf h
    have sl := trT_size ns k f (r - f) (by omega)
    have sr := trT_size ns k (r + 1) (f + s - 1 - r) (by omega)
    have hroot : en E r = e := by
      have := h (r - f) (by omega)
      rw [ents_at, sl, if_neg (by omega), if_pos rfl, show f + (r - f) = r by omega] at this
      exact this
    have hl : ∀ i, i < r - f → en E (f + i) = en (ents (trT ns k f (r - f)) (e + 1)) i := fun i hi => by rw [h i (by omega), ents_at, sl, if_pos hi]
    have hr : ∀ i, i < f + s - 1 - r → en E (r + 1 + i) = en (ents (trT ns k (r + 1) (f + s - 1 - r)) e) i := fun i hi => by
      rw [show r + 1 + i = f + (r - f + 1 + i) by omega, h (r - f + 1 + i) (by omega), ents_at, sl, if_neg (by omega), if_neg (by omega), show r - f + 1 + i - (r - f + 1) = i by omega]
    by_cases c1 : p + m < r
    · exact best_tree ns E k f (r - f) (e + 1) (by omega) hl p m h1 (by omega)
    by_cases c2 : r < p
    · exact best_tree ns E k (r + 1) (f + s - 1 - r) e (by omega) hr p m (by omega) (by omega)
    have e1 : best E p m = r := by
      refine best_eq E (by omega) (fun o o1 o2 => ?_) m (by omega) (fun o o1 o2 => ?_)
      · obtain ⟨i, rfl⟩ : ∃ i, o = f + i := ⟨o - f, by omega⟩
        have := en_ge (t := trT ns k f (r - f)) (e := e + 1) (i := i) (by omega)
        rw [hroot, hl i (by omega)]
        omega
      · obtain ⟨i, rfl⟩ : ∃ i, o = r + 1 + i := ⟨o - (r + 1), by omega⟩
        have := en_ge (t := trT ns k (r + 1) (f + s - 1 - r)) (e := e) (i := i) (by omega)
        rw [hroot, hr i (by omega)]
        exact this
    have e2 : best ns p m = r := best_eq ns (by omega) (fun o o1 o2 => bf o (by omega) o2) m (by omega) (fun o o1 o2 => bm o (by omega) (by omega))
    rw [e1, e2]
end Sh
/-! set(xs), xs a list of ints, with the order kept track of (as SetR has it) -/
namespace Dl
open PySem PySem.Spec PyProof.Rows L2 Gd
/-- the set as it is born -/
abbrev born (w : World) : Obj := { cls := .type "set", dict := none, data := .set #[] 0 (.fresh 0 0 (!w.params.followText "set-order")) }
section
variable {P : Program} {w : World} {A : Around} {E : Value → Shared → Prop} {s : Shared}
set_option maxRecDepth 100000 in
set_option maxHeartbeats 3200000 in
theorem set_of_ints {l : Addr} {its : Array Value} (ns : List Int) {Q : Value → Shared → Prop} (calm : A.handled = none) (isl : s.heap.IsList l its) (inv : IntsAre its.toList ns) (few : ns.length + 1 < scanBound)
    (fin : ∀ (hp : Heap) (tk c : Nat), SetR w hp s.heap.objs.size (fun j => decide (j ∈ ns)) c → c ≤ ns.length → (∀ b o, s.heap.get? b = some o → hp.get? b = some o) → Q (.ref s.heap.objs.size) { s with heap := hp, toks := tk }) :
    wpAny (model P w) A (call (.type "set") [.ref l]) Q E s := by
  have size : its.size = ns.length := by
    rw [← Array.length_toList]
    exact IntsAre.length inv
  have born0 : (s.heap.push (born w)).get? s.heap.objs.size = some (born w) := Heap.get?_push_size _ rfl
  obtain ⟨m1, m2, mro⟩ := F.called_set.mro
  have md := F.called_set.made
  have sb := F.called_set.sub
  have nt := F.called_set.notType
  have cc := F.called_set.canCreate
  have tc := F.typeCall_set_1 (.ref l)
  refine wpAny_call (codeAny_of_tree (show wpAny _ _ (callAny (.type "set") _) _ _ _ from wpAny_pure ⟨Code.quiet_builtin _ (by decide +kernel), codeAny_builtin F.entry_type_call ?_⟩))
  rw [Around.under_plain (weight_type_call_type "set" ([.ref l] : List Value) []) rfl]
  repeat (any_goals first | assumption | wp_step)
  refine codeAny_mono (code_set_led1 (.ref l) (E := E) (Q₁ := fun ob t => ob = .ref s.heap.objs.size ∧ t = { s with heap := s.heap.push (born w) }) ⟨rfl, rfl⟩) fun r t hr => ?_
  rcases r with e | fl
  · exact hr
  cases fl with
  | ret ob =>
    obtain ⟨rfl, rfl⟩ := hr
    have isT : Shared.TypeIs { s with heap := s.heap.push (born w) } (.ref s.heap.objs.size) "set" := ⟨_, born0, rfl⟩
    have il := F.called_set.init.lookup
    have ib := F.called_set.init.bind (.ref s.heap.objs.size)
    repeat (any_goals first | assumption | wp_step)
    refine codeAny_mono (codeAny_call_builtin (R := wants (fun r t => r = .none ∧ ∃ hp tk c, t = { s with heap := hp, toks := tk } ∧ SetR w hp s.heap.objs.size (fun j => decide (j ∈ ns)) c ∧ c ≤ ns.length ∧ ∀ b o, s.heap.get? b = some o → hp.get? b = some o) E) F.called_set.init.plain F.entry_set_init (check_set_init_1 isT ?_)) fun r t hr => ?_
    · obtain ⟨⟨oc, od, ob, os⟩, at', rfl, nl, rfl⟩ := isl
      have later := Heap.get?_push_of_some (born w) at'
      have isl1 : (s.heap.push (born w)).IsList l its := ⟨_, later, rfl, nl, rfl⟩
      have lt := Heap.lt_size at'
      have x1 := F.sub_list_set
      have x2 := F.sub_list_frozenset
      have x3 : (Value.type "list" == Value.type "dict") = false := by decide
      unfold Builtin.«set.__init__»; unfold noKeywords Builtin.Frozenset.updateFrom
      generalize eI : pyIter = PI
      wp_walk
      subst eI
      refine wpAny_pyIter_list isl1 (wpAny_bind (wpAny_runValue ?_))
      have calm3 : A.in1.in1.in1.handled = none := by simp [calm]
      have away : l ≠ (s.heap.push (born w)).objs.size := by rw [Heap.size_push]; exact Nat.ne_of_lt (Nat.lt_succ_of_lt lt)
      have apart : s.heap.objs.size ∉ [(s.heap.push (born w)).objs.size, l] := by
        rw [Heap.size_push]
        simp only [List.mem_cons, List.not_mem_nil, or_false, not_or]
        exact ⟨Nat.ne_of_lt (Nat.lt_succ_self _), Nat.ne_of_gt lt⟩
      have val : ∀ (i : Nat) (v : Value), its[i]? = some v → ∃ k t, ns[i]? = some k ∧ v = .int k t := fun i v hv => by
        have hi : i < ns.length := size ▸ (Array.getElem?_eq_some_iff.mp hv).1
        obtain ⟨t, e⟩ := IntsAre.int_at inv i v (by rw [Array.getElem?_toList]; exact hv)
        exact ⟨ns[i], t, List.getElem?_eq_getElem hi, by rw [e, List.getD_eq_getElem?_getD, List.getElem?_eq_getElem hi]; rfl⟩
      refine set_update_ints ((Walks.list calm3 _ l away its).toS) s.heap.objs.size apart ns size few val (its.size - 0) 0 _ (by omega) (Nat.zero_le _) ⟨⟨_, Heap.get?_push_size _ rfl, rfl, rfl⟩, isl1.push _⟩ ⟨0, Nat.le_refl 0, setR_new_at (Heap.get?_push_of_some _ born0)⟩ fun t c mv hc rr => ?_
      obtain ⟨hp, g, d, tk, os⟩ := t
      have e1 : g = s.gens := mv.gens
      have e2 : d = s.drawn := mv.drawn
      have e3 : os = s.os := mv.os
      subst e1 e2 e3
      show wpAny _ _ _ _ _ _; refine wpAny_pure ?_; show wpAny _ _ (ret Value.none) _ _ _; refine wpAny_pure ⟨rfl, hp, tk, c, rfl, rr, size ▸ hc, fun b o e => ?_⟩
      have b0 := Heap.lt_size e
      refine mv.heap b o ?_ (Heap.get?_push_of_some _ (Heap.get?_push_of_some _ e))
      simp only [List.mem_cons, List.not_mem_nil, or_false, not_or, Heap.size_push]
      exact ⟨Nat.ne_of_lt b0, Nat.ne_of_lt (Nat.lt_succ_of_lt b0)⟩
    · rcases r with e | fl
      · exact hr
      cases fl with
      | ret r =>
        obtain ⟨rfl, hp, tk, c, rfl, rr, hc, keep⟩ := hr
        repeat (any_goals first | assumption | wp_step)
        exact fin _ _ _ rr hc keep
      | _ => exact hr.elim
  | _ => exact hr.elim
end
section
variable {X : Cx} {G : Gx}
def rSetLst (K : PySem.W.Frag) (w : World) : List V → Hp → VK → Prop := fun xs H Q => ∃ (a : Addr) (ns : List Int), xs = [.ref a] ∧ SqL K H a (ns.map V.int) ∧ ns.length < 60 ∧ ∀ p c, c ≤ ns.length → H p = none → Q (.ref p) (upd H p (SetO w p (fun j => decide (j ∈ ns)) c))
theorem cr_setLst (hc : X.calm = true) : CallR X (.type "set") (rSetLst X.K X.w) := by
  intro pins s σ H xs us Q I r h
  obtain ⟨a, ns, rfl, hs, hb, q⟩ := h
  rw [Vals.ref1 r]
  obtain ⟨its, rv, p, hz⟩ := I.list hs
  refine set_of_ints ns (I.ok.hd hc) p.isList (by simpa using intsAre_of rv) (Nat.lt_of_lt_of_le (by omega : ns.length + 1 < 64) (by decide)) fun h' tk c R hc' keep => ?_
  exact ⟨.ref _, upd H s.heap.objs.size (SetO X.w s.heap.objs.size (fun j => decide (j ∈ ns)) c), I.laid (t' := tk) keep (Nat.le_refl _) (setO_new R), rfl, q _ c hc' (I.hok.fresh (Nat.le_refl _))⟩
/-- sorted(set(xs)), xs a list of whole numbers: the same numbers, ascending -/
def dSL (t : TD) : TD := fun E Q => t E fun d n => match d with
  | .list ds => opt (intsOf ds) fun ns => ns.length < 60 ∧ ∀ ms : List Int, ms.Pairwise (· < ·) → (∀ k, k ∈ ms ↔ k ∈ ns) → ms.length ≤ ns.length → Q (lstI ms) n
  | _ => False
theorem pl_sortedSetL {e : Expr} {t : TD} {p p2 pos pos2 : Pos} (hc : X.calm = true) (he : PB X G e t) (hm : X.mg "sorted" = none) (hm2 : X.mg "set" = none) (hg : Gl X "sorted" := by rfl) (hg2 : Gl X "set" := by rfl)
    (hs : starEach [e] X.env = (false, eval e X.env) :: starEach [] X.env := by rfl) (hs2 : starEach [.Call (.Name "set" p2) [e] [] pos2] X.env = (false, eval (.Call (.Name "set" p2) [e] [] pos2) X.env) :: starEach [] X.env := by rfl) :
    PL X G (.Call (.Name "sorted" p) [.Call (.Name "set" p2) [e] [] pos2] [] pos) (dSL t) :=
  PE.wk (pe_callB (cr_sortedSet hc) hg hm (by decide +kernel) (pa_cons (pe_callTy (cr_setLst hc) hg2 hm2 (by decide +kernel) (pa_cons he pa_nil hs) (he := hs)) pa_nil hs2) (he := hs2)) fun σ H Q ⟨O, E, Qd, r, im, z⟩ => by
    refine ⟨O, E, _, r, ?_, z⟩
    rintro d n v H1 k1 i1 rv q1
    have r1 := r.step k1 i1
    split at q1
    · obtain ⟨ns, e1, hl, q⟩ := opt_el q1
      obtain ⟨a, vs, rfl, h1, d1⟩ := rv.bw.lst
      have := ints_dv d1 e1
      subst this
      refine ⟨a, ns, rfl, sq_of h1, hl, fun p c hcl hp => ?_⟩
      refine ⟨p, _, c, rfl, upd_same, by omega, fun ms p5 pw mem len hp5 => ?_⟩
      have s2 := same_upd' (o := SetO X.w p (fun j => decide (j ∈ ns)) c) hp
      have s3 := same_upd' (o := .lst (ms.map V.int)) hp5
      have dv : ∀ (l : List Int) (Hq : Hp), DvL (fun x => O x ∨ x = p5) Hq (l.map V.int) (l.map dI) := fun l Hq => by
        induction l with
        | nil => exact .nil
        | cons x l ih => exact .cons (.int x) ih
      obtain ⟨k3, i3⟩ := r1.fin (fun b o e => s3 b o (s2 b o e))
      refine im _ n _ _ (k1.trans k3) i3 ⟨p5, _, _, rfl, rfl, ?_, upd_same, dv ms _⟩ (q ms pw (fun k => by rw [mem k]; exact decide_eq_true_iff) (by omega))
      have h15 : H1 p5 = none := by
        by_cases c5 : p5 = p
        · rw [c5]; exact hp
        · rw [upd_ne c5] at hp5
          exact hp5
      cases e0 : H p5 with
      | none => rfl
      | some u =>
        by_cases qs : G.F.S p5
        · exact (G.F.al n H1 p5 i1 qs h15).elim
        · rw [k1 p5 u e0 qs] at h15
          cases h15
    · exact q1.elim
end
end Dl
/-! len(set(xs)), xs a list of different texts -/
namespace Dl
open PySem PySem.Spec PyProof.Rows L2 Gd SS
section
variable {P : Program} {w : World} {A : Around} {R : Result → Shared → Prop} {I : Addr} {fp wr : List Addr} {Gn : Array GenState → Array GenState → Prop} {n : Nat} {Pv : Nat → Value → Prop} {St : Nat → Shared → Prop}
theorem loop_strs (W : WalksS P w A.in1 I fp wr Gn n Pv St) (S : Addr) (apart : S ∉ fp) (xs : List Str) (size : xs.length = n) (nd : xs.Nodup) (few : xs.length + 1 < scanBound)
    (val : ∀ i v, Pv i v → ∃ t, v = .str (xs.getD i Str.empty) t) : ∀ (k i : Nat) (s : Shared), n - i = k → i ≤ n → St i s →
      s.heap.SetOf (PySem.strKind P w) S (fun k => (xs.take i).any (· == k)) i →
      (∀ t, Moved (S :: wr) Gn s t → t.heap.SetOf (PySem.strKind P w) S (fun k => (xs.take xs.length).any (· == k)) xs.length → R (.ok (.ret .none)) t) →
      codeAny (model P w) A (.builtin "set.update.loop" ⟨[.ref S, .ref I], []⟩) R s := by
  have out : S ∉ wr := fun z => apart (W.sub _ z)
  have sub : ∀ b ∈ wr, b ∈ S :: wr := fun b z => List.mem_cons_of_mem _ z
  intro k
  induction k with
  | zero =>
    intro i s hk hi st so fin
    obtain rfl : i = n := by omega
    refine codeAny_builtin PyProof.Rows.F.entry_set_update_loop ?_
    rw [Around.under_plainId PyProof.Rows.F.plain_set_update_loop _]; show wpAny _ A.in1 (pyNext (.ref I) >>= _) _ _ s
    refine wpAny_bind (W.done s _ _ st fun t mv => (wpAny_pure (fin t (mv.mono sub) ?_) : wpAny _ A.in1 (ret Value.none) _ _ t))
    obtain ⟨ob, es, ep, tb, at', more⟩ := so
    rw [size]
    exact ⟨ob, es, ep, tb, mv.heap S _ out at', more⟩
  | succ k ih =>
    intro i s hk hi st so fin
    have lt : i < n := by omega
    refine codeAny_builtin PyProof.Rows.F.entry_set_update_loop ?_
    rw [Around.under_plainId PyProof.Rows.F.plain_set_update_loop _]; show wpAny _ A.in1 (pyNext (.ref I) >>= _) _ _ s
    refine wpAny_bind (W.item i s _ _ lt st fun v t hv st1 mv => ?_)
    obtain ⟨tk, rfl⟩ := val i v hv
    have so1 : t.heap.SetOf (PySem.strKind P w) S (fun k => (xs.take i).any (· == k)) i := by
      obtain ⟨ob, es, ep, tb, at', more⟩ := so
      exact ⟨ob, es, ep, tb, mv.heap S _ out at', more⟩
    have ex : xs[i]? = some (xs.getD i Str.empty) := by rw [List.getD_eq_getElem?_getD, List.getElem?_eq_getElem (by omega)]; rfl
    have new : (xs.take i).any (· == xs.getD i Str.empty) = false := by
      rw [List.any_eq_false]
      intro y hy z
      have z : y = xs.getD i Str.empty := by simpa using z
      obtain ⟨j, hj, ej⟩ := List.getElem_of_mem hy
      rw [List.length_take] at hj
      have e1 : xs[j]? = some y := by
        have : (xs.take i)[j]? = some y := by rw [List.getElem?_eq_getElem (by rw [List.length_take]; omega), ej]
        rw [List.getElem?_take, if_pos (by omega)] at this
        exact this
      rw [z] at e1
      have := (List.getElem?_inj (by omega : j < xs.length) nd).mp (e1.trans ex.symm)
      omega
    show wpAny _ A.in1 (holding [Value.str (xs.getD i Str.empty) tk] (setAdd S (.str (xs.getD i Str.empty) tk)) >>= _) _ _ t
    refine wpAny_bind (wpAny_holding ?_)
    unfold setAdd
    refine wpAny_holding (wpAny_bind ((PySem.strKind P w).pyHash (k := xs.getD i Str.empty) (strKind_is _ _ _ _) ?_))
    refine wpAny_setAddHashed_of (knd := PySem.strKind P w) (s := { t with toks := t.toks + 1 }) (strKind_is _ _ _ _) rfl so1 (by omega) fun hp but so2 => ?_
    have so3 : hp.SetOf (PySem.strKind P w) S (fun k => (xs.take (i + 1)).any (· == k)) (i + 1) := by
      refine SetOf_congr so2 (fun k' => ?_) (by rw [new]; rfl)
      rw [List.take_succ, ex, List.any_append]
      show _ = ((xs.take i).any (· == k') || ([xs.getD i Str.empty].any (· == k')))
      rw [List.any_cons, List.any_nil, Bool.or_false]
      congr 1
      rw [Bool.eq_iff_iff, decide_eq_true_iff, beq_iff_eq]
      exact ⟨fun z => z.symm, fun z => z.symm⟩
    refine wpAny_pure ⟨plainId_quiet PyProof.Rows.F.plain_set_update_loop _, ih (i + 1) _ (by omega) lt (W.frame _ t _ _ st1 (Nat.le_succ _) fun b hb ob e => ?_) so3 fun u mv2 so4 => fin u (Moved.trans W.gtrans ((mv.mono sub).then_heap (Nat.le_succ _) fun b ob hb e => ?_) mv2) so4⟩
    · rw [but.2 b (fun z : b = S => apart (z ▸ hb))]; exact e
    · rw [but.2 b (fun z : b = S => hb (z ▸ List.mem_cons_self))]; exact e
end
section
variable {P : Program} {w : World} {A : Around} {E : Value → Shared → Prop} {s : Shared}
set_option maxRecDepth 100000 in
set_option maxHeartbeats 3200000 in
theorem set_of_strs {l : Addr} {its : Array Value} (xs : List Str) {Q : Value → Shared → Prop} (calm : A.handled = none) (isl : s.heap.IsList l its) (inv : StrsAre its.toList xs) (nd : xs.Nodup) (few : xs.length + 1 < scanBound)
    (fin : ∀ (hp : Heap) (tk : Nat), hp.SetOf (PySem.strKind P w) s.heap.objs.size (fun k => (xs.take xs.length).any (· == k)) xs.length → (∀ b o, s.heap.get? b = some o → hp.get? b = some o) → Q (.ref s.heap.objs.size) { s with heap := hp, toks := tk }) :
    wpAny (model P w) A (call (.type "set") [.ref l]) Q E s := by
  have size : its.size = xs.length := by
    rw [← Array.length_toList]
    exact StrsAre.len_eq inv
  have born0 : (s.heap.push (born w)).get? s.heap.objs.size = some (born w) := Heap.get?_push_size _ rfl
  obtain ⟨m1, m2, mro⟩ := F.called_set.mro
  have md := F.called_set.made
  have sb := F.called_set.sub
  have nt := F.called_set.notType
  have cc := F.called_set.canCreate
  have tc := F.typeCall_set_1 (.ref l)
  refine wpAny_call (codeAny_of_tree (show wpAny _ _ (callAny (.type "set") _) _ _ _ from wpAny_pure ⟨Code.quiet_builtin _ (by decide +kernel), codeAny_builtin F.entry_type_call ?_⟩))
  rw [Around.under_plain (weight_type_call_type "set" ([.ref l] : List Value) []) rfl]
  repeat (any_goals first | assumption | wp_step)
  refine codeAny_mono (code_set_led1 (.ref l) (E := E) (Q₁ := fun ob t => ob = .ref s.heap.objs.size ∧ t = { s with heap := s.heap.push (born w) }) ⟨rfl, rfl⟩) fun r t hr => ?_
  rcases r with e | fl
  · exact hr
  cases fl with
  | ret ob =>
    obtain ⟨rfl, rfl⟩ := hr
    have isT : Shared.TypeIs { s with heap := s.heap.push (born w) } (.ref s.heap.objs.size) "set" := ⟨_, born0, rfl⟩
    have il := F.called_set.init.lookup
    have ib := F.called_set.init.bind (.ref s.heap.objs.size)
    repeat (any_goals first | assumption | wp_step)
    refine codeAny_mono (codeAny_call_builtin (R := wants (fun r t => r = .none ∧ ∃ hp tk, t = { s with heap := hp, toks := tk } ∧ hp.SetOf (PySem.strKind P w) s.heap.objs.size (fun k => (xs.take xs.length).any (· == k)) xs.length ∧ ∀ b o, s.heap.get? b = some o → hp.get? b = some o) E) F.called_set.init.plain F.entry_set_init (check_set_init_1 isT ?_)) fun r t hr => ?_
    · obtain ⟨⟨oc, od, ob, os⟩, at', rfl, nl, rfl⟩ := isl
      have later := Heap.get?_push_of_some (born w) at'
      have isl1 : (s.heap.push (born w)).IsList l its := ⟨_, later, rfl, nl, rfl⟩
      have lt := Heap.lt_size at'
      have x1 := F.sub_list_set
      have x2 := F.sub_list_frozenset
      have x3 : (Value.type "list" == Value.type "dict") = false := by decide
      unfold Builtin.«set.__init__»; unfold noKeywords Builtin.Frozenset.updateFrom
      generalize eI : pyIter = PI
      wp_walk
      subst eI
      refine wpAny_pyIter_list isl1 (wpAny_bind (wpAny_runValue ?_))
      have calm3 : A.in1.in1.in1.handled = none := by simp [calm]
      have away : l ≠ (s.heap.push (born w)).objs.size := by rw [Heap.size_push]; exact Nat.ne_of_lt (Nat.lt_succ_of_lt lt)
      have apart : s.heap.objs.size ∉ [(s.heap.push (born w)).objs.size, l] := by
        rw [Heap.size_push]
        simp only [List.mem_cons, List.not_mem_nil, or_false, not_or]
        exact ⟨Nat.ne_of_lt (Nat.lt_succ_self _), Nat.ne_of_gt lt⟩
      have val : ∀ (i : Nat) (v : Value), its[i]? = some v → ∃ t, v = .str (xs.getD i Str.empty) t := fun i v hv => strs_at inv i v (by rw [Array.getElem?_toList]; exact hv)
      refine loop_strs ((Walks.list calm3 _ l away its).toS) s.heap.objs.size apart xs size.symm nd few val (its.size - 0) 0 _ (by omega) (Nat.zero_le _) ⟨⟨_, Heap.get?_push_size _ rfl, rfl, rfl⟩, isl1.push _⟩ (SetOf_congr ((setObjOf_fresh (knd := PySem.strKind P w) (!w.params.followText "set-order")).setOf (Heap.get?_push_of_some _ born0) (by unfold scanBound; omega)) (fun _ => rfl) rfl) fun t mv rr => ?_
      obtain ⟨hp, g, d, tk, os⟩ := t
      have e1 : g = s.gens := mv.gens
      have e2 : d = s.drawn := mv.drawn
      have e3 : os = s.os := mv.os
      subst e1 e2 e3
      show wpAny _ _ _ _ _ _; refine wpAny_pure ?_; show wpAny _ _ (ret Value.none) _ _ _; refine wpAny_pure ⟨rfl, hp, tk, rfl, rr, fun b o e => ?_⟩
      have b0 := Heap.lt_size e
      refine mv.heap b o ?_ (Heap.get?_push_of_some _ (Heap.get?_push_of_some _ e))
      simp only [List.mem_cons, List.not_mem_nil, or_false, not_or, Heap.size_push]
      exact ⟨Nat.ne_of_lt b0, Nat.ne_of_lt (Nat.lt_succ_of_lt b0)⟩
    · rcases r with e | fl
      · exact hr
      cases fl with
      | ret r =>
        obtain ⟨rfl, hp, tk, rfl, rr, keep⟩ := hr
        repeat (any_goals first | assumption | wp_step)
        exact fin _ _ rr keep
      | _ => exact hr.elim
  | _ => exact hr.elim
end
section
variable {X : Cx} {G : Gx}
def tLenSetN (K : PySem.W.Frag) (ta : TE) : TE := fun σ H Q => ta σ H fun x H1 => ∃ l, ∃ xs : List Str, x = .ref l ∧ SqL K H1 l (xs.map V.str) ∧ xs.Nodup ∧ xs.length < 1000 ∧ Q (.int xs.length) H1
theorem pe_lenSetN {a : Expr} {ta : TE} {p p2 q pos : Pos} (hc : X.calm = true) (hg : Gl X "len") (hm : X.mg "len" = none) (hg2 : Gl X "set") (hm2 : X.mg "set" = none) (ha : PE X a ta)
    (na : starEach [a] X.env = (false, eval a X.env) :: starEach [] X.env := by rfl) : PE X (.Call (.Name "len" p) [.Call (.Name "set" p2) [a] [] q] [] pos) (tLenSetN X.K ta) := by
  constructor; intro pins s σ H Q I h; refine Call_ (ld_blt I hg hm boot_len (PyProof.Rows.callWith_builtin1 (PyProof.Rows.args_cons ?_ rfl) rfl rfl))
  refine Call_ (ld_blt I hg2 hm2 boot_set (PyProof.Rows.callWith_type1 (PyProof.Rows.args_cons (thn (ha.run pins s σ H _ I h) fun v s1 ⟨x, H1, I1, r1, want⟩ => PyProof.Rows.args_nil ?_) na) na rfl))
  obtain ⟨l, xs, rfl, sq, nd, few, want⟩ := want
  cases r1
  obtain ⟨its, vals, isl, _⟩ := I1.list sq
  refine set_of_strs xs (I1.ok.hd hc) isl.isList (by simpa using strsAre_of vals) nd (Nat.lt_of_lt_of_le (by omega : xs.length + 1 < 1002) (by decide)) fun hp tk so keep => PyProof.Rows.args_nil ?_
  obtain ⟨ob, es, ep, tb, at', ex, dt, _, _, _, fits, num⟩ := so
  exact call_len_set at' ex dt fits (by rw [num]; omega) ⟨.int xs.length, H1, (I1.kept keep).tok _, ⟨_, by rw [num]⟩, want⟩
/-- len(set(xs)), xs a list of different texts -/
def dLenSet (t : TD) : TD := fun E Q => t E fun d n => ∃ xs : List Str, d = .list (xs.map PyData.str) ∧ xs.Nodup ∧ xs.length < 1000 ∧ Q (.int (xs.length : Nat)) n
theorem strs_dv {O : Addr → Prop} {H : Hp} : ∀ {vs : List V} {xs : List Str}, DvL O H vs (xs.map PyData.str) → vs = xs.map V.str
  | _, [], .nil => rfl
  | _, x :: xs, .cons h t => by
    cases h
    rw [strs_dv t]
    rfl
theorem pd_lenSetN {a : Expr} {t : TD} {p p2 q pos : Pos} (hc : X.calm = true) (ha : PB X G a t) (hm : X.mg "len" = none) (hm2 : X.mg "set" = none) (hg : Gl X "len" := by rfl) (hg2 : Gl X "set" := by rfl) (na : starEach [a] X.env = (false, eval a X.env) :: starEach [] X.env := by rfl) :
    PD X G (.Call (.Name "len" p) [.Call (.Name "set" p2) [a] [] q] [] pos) (dLenSet t) := PE.wk (pe_lenSetN hc hg hm hg2 hm2 ha na) fun σ H Q ⟨O, E, Qd, r, im, z⟩ => by
  refine ⟨O, E, _, r, ?_, z⟩
  rintro d n v H1 k1 i1 rv ⟨xs, rfl, nd, few, q⟩
  obtain ⟨a, vs, rfl, h1, d1⟩ := rv.bw.lst
  have := strs_dv d1
  subst this
  exact ⟨a, xs, rfl, sq_of h1, nd, few, im _ n _ H1 k1 i1 (.int _) q⟩
end
end Dl
namespace Lw
open PySem PySem.Spec PyProof.Rows L2 Gd Dl Sh
local macro_rules | `(tactic| walk_at "go") => `(tactic| repeat (refine opt_of rfl ?_))
local macro_rules | `(tactic| walk_at "en") => `(tactic| dsimp only [dBor, dVar, setsD, List.set_cons_zero, List.set_cons_succ, List.getElem?_cons_zero, List.getElem?_cons_succ])
theorem best_lead {ns : List Int} {f k : Nat} : lead ns (f + k + 1) f = decide (best ns f (k + 1) = f + k + 1) := by
  rw [lead_best]
  have hb := best_bd ns f k
  rw [best]
  by_cases h : en ns (f + k + 1) < en ns (best ns f k)
  · rw [decide_eq_true h, if_pos h, decide_eq_true rfl]
  · rw [decide_eq_false h, if_neg h, decide_eq_false (by omega)]
def Same (a b : List Int) : Prop := ∀ f k, f + k < a.length → best a f k = best b f k
theorem shp_same {a b : List Int} (hl : a.length = b.length) : shp a = shp b ↔ Same a b := by
  constructor
  · intro h f k hk
    exact best_of_shp h f k hk
  · intro h
    have ld : ∀ p f, p < a.length → f ≤ p → lead a p f = lead b p f := by
      intro p f hp hf
      by_cases e : f = p
      · subst e
        rw [lead_first, lead_first]
      · obtain ⟨k, rfl⟩ : ∃ k, p = f + k + 1 := ⟨p - f - 1, by omega⟩
        rw [best_lead, best_lead, h f (k + 1) (by omega)]
    have key : ∀ (a b : List Int) (p : Nat), (∀ f, f ≤ p → lead a p f = lead b p f) → dist b p ≤ dist a p := by
      intro a b p h
      have la := dist_le a p
      have lb := dist_le b p
      by_cases z : dist a p = 0
      · have h0 := h 0 (by omega)
        unfold lead at h0
        rw [decide_eq_true z, Bool.true_or] at h0
        have := h0.symm
        simp only [Bool.or_eq_true, decide_eq_true_eq] at this
        omega
      · have h0 := h (p - dist a p) (by omega)
        unfold lead at h0
        rw [decide_eq_false z, Bool.false_or, decide_eq_false (by omega)] at h0
        have := h0.symm
        simp only [Bool.or_eq_false_iff, decide_eq_false_iff_not] at this
        omega
    unfold shp
    rw [hl]
    refine List.map_congr_left fun p hp => ?_
    have hp := List.mem_range.mp hp
    have h1 := key a b p fun f hf => ld p f (by omega) hf
    have h2 := key b a p fun f hf => (ld p f (by omega) hf).symm
    rw [show dist a p = dist b p by omega]
theorem chn_reach {e : Nat → Int} {j : Nat} : ∀ (f s : Nat), j ≤ s → s ≤ f → (∀ i, j < i → i ≤ s → 0 < e i ∧ (j : Int) ≤ (i : Int) - e i) → j ∈ chn e f s
  | 0, s, h1, h2, h => by
    obtain rfl : s = 0 := by omega
    obtain rfl : j = 0 := by omega
    exact chn_head
  | f + 1, s, h1, h2, h => by
    by_cases c : j = s
    · rw [c]; exact chn_head
    · have hs := h s (by omega) (Nat.le_refl _)
      rw [chn, if_pos hs.1]
      exact List.mem_cons_of_mem _ (chn_reach f (s - (e s).toNat) (by omega) (by omega) fun i i1 i2 => h i i1 (by omega))
theorem ev_shp {ns : List Int} {p : Nat} (h : p < ns.length) : ev ((shp ns).map dI) p = (dist ns p : Nat) ∧ ((shp ns).map dI).getD p .none = .int (dist ns p : Nat) := by
  have e : ((shp ns).map dI).getD p .none = .int (dist ns p : Nat) := by
    rw [List.getD_eq_getElem?_getD, List.getElem?_map, List.getElem?_eq_getElem (by rw [shp_length]; exact h)]
    have := en_shp h
    unfold en at this
    rw [List.getD_eq_getElem?_getD, List.getElem?_eq_getElem (by rw [shp_length]; exact h)] at this
    show PyData.int ((shp ns)[p]'(by rw [shp_length]; exact h)) = _
    rw [show (shp ns)[p]'(by rw [shp_length]; exact h) = ((dist ns p : Nat) : Int) from this]
  unfold ev
  rw [e]
  exact ⟨rfl, rfl⟩
theorem dist_sp (ns : List Int) (p : Nat) (h : 0 < dist ns p) : en ns (p - dist ns p) ≤ en ns p ∧ ∀ i, p - dist ns p < i → i < p → en ns p < en ns i := by
  rcases prevLe_spec ns p p (Nat.le_refl _) with ⟨j, h1, h2, h3, h4⟩ | ⟨h1, h2⟩
  · have h4 : dist ns p = p - j := h4
    rw [show p - dist ns p = j by omega]
    exact ⟨h2, fun i i1 i2 => h3 i i1 i2⟩
  · have h2 : dist ns p = 0 := h2
    omega
theorem dist_ge {ns : List Int} {j i : Nat} (h : j < i) (hj : en ns j ≤ en ns i) : 0 < dist ns i ∧ j ≤ i - dist ns i := by
  rcases prevLe_spec ns i i (Nat.le_refl _) with ⟨k, h1, h2, h3, h4⟩ | ⟨h1, h2⟩
  · have h4 : dist ns i = i - k := h4
    refine ⟨by omega, Classical.byContradiction fun z => ?_⟩
    have := h3 j (by omega) h
    omega
  · have := h1 j h
    omega
theorem shp_ok (ns : List Int) {p : Nat} (hp : p < ns.length) : okB ((shp ns).map dI) p = true := by
  obtain ⟨_, e⟩ := ev_shp hp
  rw [okB_iff e]
  refine decide_eq_true ⟨?_, by omega⟩
  unfold dsL
  by_cases z : dist ns p = 0
  · rw [z]; exact List.mem_cons_self
  · have dl := dist_le ns p
    rw [if_pos (by omega)]
    refine List.mem_cons_of_mem _ (List.mem_map.mpr ⟨p - dist ns p, ?_, by omega⟩)
    obtain ⟨a, b⟩ := dist_sp ns p (by omega)
    refine chn_reach p (p - 1) (by omega) (by omega) fun i i1 i2 => ?_
    have bi := b i i1 (by omega)
    obtain ⟨c, d⟩ := dist_ge (ns := ns) i1 (by omega)
    have dl2 := dist_le ns i
    rw [(ev_shp (by omega : i < ns.length)).1]
    exact ⟨by omega, by omega⟩
theorem shp_is {ns : List Int} (h1 : 1 ≤ ns.length) (h2 : ns.length ≤ 12) : isShB 12 (tupI (shp ns)) = true := isSh_yes (by rw [List.length_map, shp_length]; exact h1) (by rw [List.length_map, shp_length]; exact h2) fun j hj => shp_ok ns (by rw [List.length_map, shp_length] at hj; exact hj)
theorem lsz_enc : ∀ t : Tr, t.size ≤ 98 → lsz (encT t) = t.size
  | .nil, _ => by simp [encT, lsz, lszAll, Tr.size]
  | .node l r, h => by
    have h : l.size + r.size + 1 ≤ 98 := h
    have a := lsz_enc l (by omega)
    have b := lsz_enc r (by omega)
    show lsz (.tuple [encT l, encT r]) = l.size + r.size + 1
    rw [lsz, lszAll, lszAll, lszAll, a, b]
    simp
    omega
theorem tree_shp (ns : List Int) : dsts (trT ns ns.length 0 ns.length) false = shp ns := by
  have sz := trT_size ns ns.length 0 ns.length (Nat.le_refl _)
  rw [← shp_ents]
  refine (shp_same (by rw [ents_length, sz])).mpr fun f k hk => ?_
  rw [ents_length, sz] at hk
  exact best_tree ns _ ns.length 0 ns.length 0 (Nat.le_refl _) (fun i hi => by rw [Nat.zero_add]) f k (Nat.zero_le _) (by omega)
theorem tree_of_ents (t : Tr) (h : t.size ≤ 12) : trD (ents t 0) 13 0 (ents t 0).length = encT t := by
  rw [ents_length]
  exact tree_back t (ents t 0) 0 13 0 (by omega) fun i _ => by rw [Nat.zero_add]
theorem trD_trT (ns : List Int) (h : ns.length ≤ 12) : trD ns 13 0 ns.length = encT (trT ns ns.length 0 ns.length) := by
  rw [trT_enc]
  exact trD_fuel ns 13 ns.length 0 ns.length (by omega) (Nat.le_refl _)
/-- a row with the shape, entries as small as may be -/
def rowOf (sh : List Int) : List Int := (List.range sh.length).foldl (fun (es : List Int) (k : Nat) => let p := sh.length - 1 - k; (List.range p).foldl (fun (es : List Int) (o : Nat) => if (if en sh p = 0 then (-1 : Int) else (p : Int) - en sh p) < (o : Int) then es.set o (max (en es o) (en es p + 1)) else es) es) (List.replicate sh.length 0)
theorem rows_ok : ((List.range 7).all fun m => (allSh m).all fun q => decide (shp (rowOf q.1) = q.1) && decide ((rowOf q.1).length ≤ 12)) = true := by decide +kernel
end Lw
namespace Lw
open PySem PySem.Spec PyProof.Rows L2 Gd Dl Sh
abbrev chs (s : Str) : List Nat := s.cps.toList
theorem chs_app (a b : Str) : chs (a ++ b) = chs a ++ chs b := by
  show (a.cps ++ b.cps).toList = _
  rw [Array.toList_append]
theorem chs_nil : chs (encT .nil).shown = [40, 41] := by
  rw [encT, PyData.shown, PyData.shownAll]
  decide +kernel
theorem chs_node (l r : Tr) : chs (encT (.node l r)).shown = 40 :: (chs (encT l).shown ++ (44 :: 32 :: (chs (encT r).shown ++ [41]))) := by
  rw [encT, PyData.shown, PyData.shownAll, PyData.shownAll, PyData.shownAll]
  generalize (encT l).shown = a
  generalize (encT r).shown = b
  unfold tupleText
  show chs (("(" : Str) ++ (a ++ (", " : Str) ++ b) ++ (")" : Str)) = _
  rw [chs_app, chs_app, chs_app, chs_app]
  simp only [List.append_assoc]
  rfl
theorem chs_ne (t : Tr) : ∃ r, chs (encT t).shown = 40 :: r := by
  cases t with
  | nil => exact ⟨_, chs_nil⟩
  | node l r => exact ⟨_, chs_node l r⟩
theorem chs_inj : ∀ (t u : Tr) (a b : List Nat), chs (encT t).shown ++ a = chs (encT u).shown ++ b → t = u ∧ a = b
  | .nil, .nil, a, b, h => ⟨rfl, List.append_cancel_left h⟩
  | .nil, .node l r, a, b, h => by
    obtain ⟨x, e⟩ := chs_ne l
    rw [chs_nil, chs_node, e] at h
    cases h
  | .node l r, .nil, a, b, h => by
    obtain ⟨x, e⟩ := chs_ne l
    rw [chs_nil, chs_node, e] at h
    cases h
  | .node l r, .node l2 r2, a, b, h => by
    rw [chs_node, chs_node] at h
    simp only [List.cons_append, List.append_assoc, List.cons.injEq, true_and] at h
    obtain ⟨e1, h1⟩ := chs_inj l l2 _ _ h
    simp only [List.cons.injEq, true_and] at h1
    obtain ⟨e2, h2⟩ := chs_inj r r2 _ _ h1
    simp only [List.cons_append, List.nil_append, List.cons.injEq, true_and] at h2
    exact ⟨by rw [e1, e2], h2⟩
theorem shown_inj {t u : Tr} (h : (encT t).shown = (encT u).shown) : t = u := (chs_inj t u [] [] (by rw [h])).1
/-- the tree of a shape of few places -/
abbrev trQ (q : List Int × List Int) : Tr := trT (rowOf q.1) (rowOf q.1).length 0 (rowOf q.1).length
theorem allSh_ok {m : Nat} (h : m < 7) {q : List Int × List Int} (hq : q ∈ allSh m) : shp (rowOf q.1) = q.1 ∧ (rowOf q.1).length ≤ 12 := by
  have z := List.all_eq_true.mp (List.all_eq_true.mp rows_ok m (List.mem_range.mpr h)) q hq
  simp only [Bool.and_eq_true, decide_eq_true_eq] at z
  exact z
theorem allSh_nd : ∀ m < 7, ((allSh m).map fun q => q.1).Nodup := by decide +kernel
theorem allSh_len : ∀ m < 7, (allSh m).length < 1000 := by decide +kernel
theorem trQ_shp {m : Nat} (h : m < 7) {q : List Int × List Int} (hq : q ∈ allSh m) : dsts (trQ q) false = q.1 := by
  obtain ⟨a, b⟩ := allSh_ok h hq
  rw [tree_shp, a]
theorem texts_nd {m : Nat} (h : m < 7) : ((allSh m).map fun q => (encT (trQ q)).shown).Nodup := by
  have nd := allSh_nd m h
  unfold List.Nodup at nd ⊢
  rw [List.pairwise_map] at nd ⊢
  refine nd.imp_of_mem fun {x y} hx hy hne e => hne ?_
  have := shown_inj e
  rw [← trQ_shp h hx, ← trQ_shp h hy, this]
end Lw
namespace Lw
open PySem PySem.Spec PyProof.Rows L2 Gd Dl Sh
local macro_rules | `(tactic| walk_at "go") => `(tactic| repeat (refine opt_of rfl ?_))
local macro_rules | `(tactic| walk_at "en") => `(tactic| dsimp only [dBor, dVar, setsD, List.set_cons_zero, List.set_cons_succ, List.getElem?_cons_zero, List.getElem?_cons_succ])
section
variable {P : Program} {w : World} {K : PySem.W.Frag} {mg : Str → Option Value} {base : Heap}
abbrev s_law : Stmt := topS 28
abbrev N_law : List Str := ["_law_script", "_law_stream_here", "_law_turn", "_law_shape_here", "_law_tree", "_law_shapes", "_law_trees"]
theorem sc_law : FnScope N_law ["_law_script"] (defScope s_law) := ⟨rfl, rfl, rfl, by decide +kernel, rfl, by decide +kernel, by decide +kernel⟩
-- slots: 0 _law_script, 1 _law_stream_here, 2 _law_turn, 3 _law_shape_here, 4 _law_tree, 5 _law_shapes, 6 _law_trees
theorem ok_law {f : Addr} {fd : FuncData} {k : Nat} {fS : Addr} {dS : FuncData} {f_tree_shape : Addr} {d_tree_shape : FuncData} {f_tree_of : Addr} {d_tree_of : FuncData} {f__law_all_shapes : Addr} {d__law_all_shapes : FuncData} {f__law_draw : Addr} {d__law_draw : FuncData} {f_is_shape : Addr} {d_is_shape : FuncData} {f_is_tree : Addr} {d_is_tree : FuncData} {f__law_drawn : Addr} {d__law_drawn : FuncData} {f__law_shape : Addr} {d__law_shape : FuncData} {f__law_row : Addr} {d__law_row : FuncData} (F : Fun K "law" "law" s_law f fd) (CS : Cal P w K mg base k "_law_stream" fS dS ["_law_script"] (spStream K)) (c_tree_shape : Cd P w K mg base k "tree_shape" f_tree_shape d_tree_shape ["tree"] C_tree_shape) (c_tree_of : Cd P w K mg base k "tree_of" f_tree_of d_tree_of ["shape"] C_tree_of) (c__law_all_shapes : Cd P w K mg base k "_law_all_shapes" f__law_all_shapes d__law_all_shapes ["_law_many"] C__law_all_shapes) (c__law_draw : Cd P w K mg base k "_law_draw" f__law_draw d__law_draw ["_law_stream_here", "_law_many"] C__law_draw) (c_is_shape : Cd P w K mg base k "is_shape" f_is_shape d_is_shape ["value"] C_is_shape) (c_is_tree : Cd P w K mg base k "is_tree" f_is_tree d_is_tree ["value"] C_is_tree) (c__law_drawn : Cd P w K mg base k "_law_drawn" f__law_drawn d__law_drawn ["_law_stream_here", "_law_many"] (C__law_drawn 13)) (c__law_shape : Cd P w K mg base k "_law_shape" f__law_shape d__law_shape ["_law_row_here"] C__law_shape) (c__law_row : Cd P w K mg base k "_law_row" f__law_row d__law_row ["_law_stream_here", "_law_most"] C__law_row) (m_len : mg "len" = none) (m_range : mg "range" = none) (m_repr : mg "repr" = none) (m_set : mg "set" = none) : FnG P w K mg base CX0 (k + 1) f fd ["_law_script"] (spLaw K) := by
  refine fnG_of F sc_law (fun vs H Q E h => ?_) (fun cdv A outer st H vs Q E hr hg h => ?_)
  · obtain ⟨sc, ns, rfl, _⟩ := h
    rfl
  · obtain ⟨sc, ss, rfl, hS, hlen, q⟩ := h
    refine ⟨_, pss_cons (ps_set (i := 1) sc_law.nd rfl (by first | exact .inl rfl | exact .inr rfl) (pe_call CS.G hr (by rfl) CS.g CS.kp CS.b .nil pass0 (pa_cons (pv 0) pa_nil))) (exG fun G =>
        (zs_cons (z_for (tg := (.nm 2)) PassesOwn.never rfl (j_range1 pd_int m_range) (pg_name (i := 2) sc_law.nd rfl (by first | exact .inl rfl | exact .inr rfl))
          (zs_cons (z_par (i := 3) (j := 4) rfl sc_law.nd rfl rfl (by decide) rfl rfl (pr_cons (pd_call c__law_shape.G hr c__law_shape.g c__law_shape.kp c__law_shape.b (pr_cons (pd_call c__law_row.G hr c__law_row.g c__law_row.kp c__law_row.b (pr_con (pv 1) (pr_cons pd_int pr_nil))) pr_nil)) (pr_cons (pd_call c__law_drawn.G hr c__law_drawn.g c__law_drawn.kp c__law_drawn.b (pr_con (pv 1) (pr_cons (pd_add (PB.of pd_int) (PB.of (pd_call c__law_draw.G hr c__law_draw.g c__law_draw.kp c__law_draw.b (pr_con (pv 1) (pr_cons pd_int pr_nil))))) pr_nil))) pr_nil)) (by rfl))
          (zs_cons (z_if (PW.pt (w_or (pq_cmp op_isnot' l_is (PB.of (pd_call c_is_tree.G hr c_is_tree.g c_is_tree.kp c_is_tree.b (pr_cons (pd_call c_tree_of.G hr c_tree_of.g c_tree_of.kp c_tree_of.b (pr_cons (pd_var (pv 3)) pr_nil)) pr_nil))) (PB.of pd_bl) (nomark _)) (w_or1 (pq_cmp (op_neX hr.units) l_ne (PB.of (pd_repr hg hr.units (PB.of (pd_call c_tree_shape.G hr c_tree_shape.g c_tree_shape.kp c_tree_shape.b (pr_cons (pd_call c_tree_of.G hr c_tree_of.g c_tree_of.kp c_tree_of.b (pr_cons (pd_var (pv 3)) pr_nil)) pr_nil))) m_repr)) (PB.of (pd_repr hg hr.units (pb_var (pv 3)) m_repr)) (nomark _)))))
            (zs_one (z_ret (PB.of pd_bl)))
            zs_nil)
          (zs_one (z_if (PW.pt (w_or (pq_cmp op_isnot' l_is (PB.of (pd_call c_is_shape.G hr c_is_shape.g c_is_shape.kp c_is_shape.b (pr_cons (pd_call c_tree_shape.G hr c_tree_shape.g c_tree_shape.kp c_tree_shape.b (pr_cons (pd_var (pv 4)) pr_nil)) pr_nil))) (PB.of pd_bl) (nomark _)) (w_or1 (pq_cmp (op_neX hr.units) l_ne (PB.of (pd_repr hg hr.units (PB.of (pd_call c_tree_of.G hr c_tree_of.g c_tree_of.kp c_tree_of.b (pr_cons (pd_call c_tree_shape.G hr c_tree_shape.g c_tree_shape.kp c_tree_shape.b (pr_cons (pd_var (pv 4)) pr_nil)) pr_nil))) m_repr)) (PB.of (pd_repr hg hr.units (pb_var (pv 4)) m_repr)) (nomark _)))))
            (zs_one (z_ret (PB.of pd_bl)))
            zs_nil)))))
        (zs_cons (z_set (i := 5) sc_law.nd rfl (by first | exact .inl rfl | exact .inr rfl) (pd_call c__law_all_shapes.G hr c__law_all_shapes.g c__law_all_shapes.kp c__law_all_shapes.b (pr_cons (pd_add (PB.of pd_int) (PB.of (pd_call c__law_draw.G hr c__law_draw.g c__law_draw.kp c__law_draw.b (pr_con (pv 1) (pr_cons pd_int pr_nil))))) pr_nil)))
        (zs_cons (z_ownLc (i := 6) rfl sc_law.nd rfl rfl (sw_true rfl rfl rfl (by decide +kernel)) (own := [("_law_shape_here", 3)]) (tg := (.nm 3)) (j_seq (pd_var (pv 5))) (blkOk_by (N := N_law) (sc := defScope s_law) (by decide +kernel)) (fun _ _ _ _ _ => (pg_name (i := 3) sc_law.nd rfl (by first | exact .inl rfl | exact .inr rfl))) (fun _ _ _ _ _ => ts_nil) (fun _ _ _ _ _ => (pd_call c_tree_of.G hr c_tree_of.g c_tree_of.kp c_tree_of.b (pr_cons (pd_var (pv 3)) pr_nil))) (by simp [tgIn]))
        (zs_cons (z_frz 6 (z_if (pq_cmp (op_neX hr.units) l_ne (PB.of (PD.ofL (pl_lc (own := [("_law_tree", 4)]) (tg := (.nm 4)) rfl sc_law.nd (j_seq (pd_var (pv 6))) (blkOk_by (N := N_law) (sc := defScope s_law) (by decide +kernel)) (fun _ _ _ _ _ => (pg_name (i := 4) sc_law.nd rfl (by first | exact .inl rfl | exact .inr rfl))) (fun _ _ _ _ _ => ts_nil) (fun _ _ _ _ _ => (pd_call c_tree_shape.G hr c_tree_shape.g c_tree_shape.kp c_tree_shape.b (pr_cons (pd_var (pv 4)) pr_nil))) (by simp [tgIn])))) (pb_var (pv 5)) (nomark _))
          (zs_one (z_ret (PB.of pd_bl)))
          zs_nil))
        (zs_one (z_ret (PB.of (pd_cmp (op_eqX hr.units) l_eq (PB.of (pd_lenSetN rfl (PB.of (PD.ofL (pl_lc (own := [("_law_tree", 4)]) (tg := (.nm 4)) rfl sc_law.nd (j_seq (pd_var (pv 6))) (blkOk_by (N := N_law) (sc := defScope s_law) (by decide +kernel)) (fun _ _ _ _ _ => (pg_name (i := 4) sc_law.nd rfl (by first | exact .inl rfl | exact .inr rfl))) (fun _ _ _ _ _ => ts_nil) (fun _ _ _ _ _ => (pd_repr hg hr.units (pb_var (pv 4)) m_repr)) (by simp [tgIn])))) m_len m_set)) (PB.of (pd_len (pb_var (pv 5)) m_len)) (nomark _)))))))))), ?_⟩
    refine ⟨.ref sc, rfl, sc, ss, rfl, hS, hlen, fun H1 s a b h01 hs0 ha0 hb0 sm => ?_⟩
    refine law_go (m := 5) sm (fun G hF => ?_) q
    walk_at "go"; refine And.intro (by decide) ?_
    walk_at "go"; refine for_Z _ (fun i E => ∃ y2 y3 y4 y5 y6 n, E = ⟨[.no, .con G.F.s, y2, y3, y4, y5, y6], n⟩ ∧ n ≤ 100 * i) ⟨_, _, _, _, _, 0, rfl, by omega⟩ (fun i E D' hi h nx ct bk rt => ?_) (fun E h => ?_)
    · obtain ⟨y2, y3, y4, y5, y6, n, rfl, hn⟩ := h
      have hi' : i < 10 := hi
      walk_at "go"; try dsimp only [List.set_cons_zero, List.set_cons_succ]
      walk_at "go"; refine And.intro rfl ⟨12, rfl, hF, by show n < 900000; omega, by decide, by decide, fun ns l1 l2 bd => ?_⟩
      walk_at "go"; try dsimp only [List.set_cons_zero, List.set_cons_succ]
      walk_at "go"; refine And.intro rfl ⟨ns, rfl, by omega, ?_⟩
      walk_at "go"; try dsimp only [List.set_cons_zero, List.set_cons_succ]
      walk_at "go"; refine And.intro rfl ⟨12, rfl, hF, by show n + 50 < 1000000; omega, by decide, by decide, fun r r0 r1 => ?_⟩
      walk_at "go"; try dsimp only [List.set_cons_zero, List.set_cons_succ]
      walk_at "go"; refine And.intro rfl ⟨r.toNat + 1, ?_, hF, by omega, by omega, by show n + 50 + 1 + 2 * (r.toNat + 1) ≤ 900000; omega, fun t n1 e1 b1 => ?_⟩
      · show [Ar.c G.F.s, Ar.d (.int (1 + r))] = _
        rw [show 1 + r = ((r.toNat + 1 : Nat) : Int) by omega]
      have b1' : n1 ≤ n + 50 + 1 + 2 * (r.toNat + 1) := b1
      walk_at "go"; refine And.intro (rfl) ?_
      walk_at "go"; try dsimp only [List.set_cons_zero, List.set_cons_succ]
      walk_at "go"; refine And.intro rfl ⟨ns, rfl, by omega, ?_⟩
      rw [trD_trT ns (by omega)]
      have s0 := trT_size ns ns.length 0 ns.length (Nat.le_refl _)
      have f0 := (encT_fit (trT ns ns.length 0 ns.length)).mono (w' := 36) (k' := 14) (by omega) (by omega)
      have f1 := (encT_fit t).mono (w' := 36) (k' := 14) (by omega) (by omega)
      have g0 := fit_tupI (ns := shp ns) (fun x hx => by have := shp_bd hx; omega) (m := 12) (by rw [shp_length]; omega)
      have g1 := fit_tupI (ns := dsts t false) (fun x hx => by rw [← shp_ents] at hx; have := shp_bd hx; rw [ents_length] at this; omega) (m := 12) (by rw [dsts_length]; omega)
      walk_at "go"; refine And.intro rfl ⟨_, rfl, Nat.le_trans f0.wt (by decide), ?_⟩
      rw [lsz_enc _ (by omega), s0, decide_eq_true (show 1 ≤ ns.length ∧ ns.length ≤ 12 by omega)]
      walk_at "go"; try dsimp only [List.set_cons_zero, List.set_cons_succ]
      walk_at "go"; refine And.intro rfl ⟨ns, rfl, by omega, ?_⟩
      rw [trD_trT ns (by omega)]
      walk_at "go"; refine And.intro rfl ⟨_, rfl, by omega, ?_⟩
      rw [tree_shp]
      walk_at "go"; refine opt_of (g0.repr) ?_
      walk_at "go"; refine opt_of (g0.repr) ?_
      walk_at "go"; refine opt_of (neq_self) ?_
      walk_at "go"; try dsimp only [List.set_cons_zero, List.set_cons_succ]
      walk_at "go"; refine And.intro rfl ⟨t, rfl, by omega, ?_⟩
      walk_at "go"; refine And.intro rfl ⟨_, rfl, ?_⟩
      rw [← shp_ents t, shp_is (by rw [ents_length]; omega) (by rw [ents_length]; omega)]
      walk_at "go"; try dsimp only [List.set_cons_zero, List.set_cons_succ]
      walk_at "go"; refine And.intro rfl ⟨t, rfl, by omega, ?_⟩
      rw [← shp_ents t]
      walk_at "go"; refine And.intro rfl ⟨ents t 0, rfl, by rw [ents_length]; omega, ?_⟩
      rw [tree_of_ents t (by omega)]
      walk_at "go"; refine opt_of (f1.repr) ?_
      walk_at "go"; refine opt_of (f1.repr) ?_
      walk_at "go"; refine opt_of (neq_self) ?_
      walk_at "go"; exact nx _ ⟨_, _, _, _, _, n1, rfl, by omega⟩
    · obtain ⟨y2, y3, y4, y5, y6, n, rfl, hn⟩ := h
      have hn : n ≤ 1000 := hn
      walk_at "go"; try dsimp only [List.set_cons_zero, List.set_cons_succ]
      walk_at "go"; refine And.intro rfl ⟨6, rfl, hF, by show n < 1000000; omega, by decide, by decide, fun r r0 r1 => ?_⟩
      have hm : r.toNat + 1 < 7 := by omega
      walk_at "go"; try dsimp only [List.set_cons_zero, List.set_cons_succ]
      walk_at "go"; refine And.intro rfl ⟨r.toNat + 1, ?_, by omega, ?_⟩
      · show [Ar.d (.int (1 + r))] = _
        rw [show 1 + r = ((r.toNat + 1 : Nat) : Int) by omega]
      have len := allSh_len _ hm
      walk_at "go"; try dsimp only [List.set_cons_zero, List.set_cons_succ]
      walk_at "go"; refine lc_M0 (allSh (r.toNat + 1)) (fun q => tupI q.1) (fun q => encT (trQ q)) (fun q hq => ⟨_, rfl, fun _ _ z => z, fun _ _ z => ?_⟩) (by omega) ?_
      · obtain ⟨a, b⟩ := allSh_ok hm hq
        walk_at "go"; refine And.intro rfl ⟨rowOf q.1, by rw [a], b, ?_⟩
        rw [trD_trT _ b]
        exact z
      walk_at "go"; try dsimp only [List.set_cons_zero, List.set_cons_succ]
      walk_at "go"; refine lc_M0 (allSh (r.toNat + 1)) (fun q => encT (trQ q)) (fun q => tupI q.1) (fun q hq => ⟨_, rfl, fun _ _ z => z, fun _ _ z => ?_⟩) (by omega) ?_
      · obtain ⟨a, b⟩ := allSh_ok hm hq
        have s0 := trT_size (rowOf q.1) (rowOf q.1).length 0 (rowOf q.1).length (Nat.le_refl _)
        walk_at "go"; refine And.intro rfl ⟨trQ q, rfl, by rw [s0]; exact b, ?_⟩
        rw [trQ_shp hm hq]
        exact z
      have pl : Pln 2 (.list ((allSh (r.toNat + 1)).map fun q => tupI q.1)) := pln_lst fun d hd => by
        obtain ⟨q, _, rfl⟩ := List.mem_map.mp hd
        exact pln_tupI
      walk_at "go"; refine opt_of (eq_data pl pl (by decide)) ?_
      rw [PySem.SeqAt.eqv_refl _ pl.cl]
      walk_at "go"; try dsimp only [List.set_cons_zero, List.set_cons_succ]
      walk_at "go"; refine lc_M0 (allSh (r.toNat + 1)) (fun q => encT (trQ q)) (fun q => .str (encT (trQ q)).shown) (fun q hq => ⟨_, rfl, fun _ _ z => z, fun _ _ z => ?_⟩) (by omega) ?_
      · obtain ⟨a, b⟩ := allSh_ok hm hq
        have s0 := trT_size (rowOf q.1) (rowOf q.1).length 0 (rowOf q.1).length (Nat.le_refl _)
        have f0 := (encT_fit (trQ q)).mono (w' := 36) (k' := 14) (by rw [s0]; omega) (by rw [s0]; omega)
        walk_at "go"; refine opt_of (f0.repr) ?_
        exact z
      walk_at "go"; refine ⟨(allSh (r.toNat + 1)).map fun q => (encT (trQ q)).shown, by rw [List.map_map]; rfl, texts_nd hm, by rw [List.length_map]; exact len, ?_⟩
      rw [List.length_map]
      walk_at "go"; try dsimp only [List.set_cons_zero, List.set_cons_succ]
      rw [List.length_map]
      walk_at "go"; refine opt_of (eq_data pln_int pln_int (by decide)) ?_
      show PyData.bool (false != PyData.eqv _ _) = _
      rw [PyData.eqv]
      simp
end
end Lw
namespace Lw
open PySem PySem.Spec PyProof.Rows L2 Gd Dl
theorem all_mk {l : PySem.W.OpenLaw} {w : World} {K : PySem.W.Frag} {h : Heap} {mg : Str → Option Value} {fa f__law_stream f__law_draw f__law_row f_is_whole f_is_place f_is_window f_check_window f_leads_out f_least_of f_window_tree f_tree_of f_distances_at f_is_shape_up_to f_is_shape f_is_tree f_tree_distances f_tree_shape f__law_shape f__law_drawn f__law_all_shapes f_law : Addr} (X : K.In h) (G : h.Ns mainGlobals mg) (hfa : mg "law" = some (.ref fa))
    {od__law_stream an__law_stream : Option Addr} {sl__law_stream : Array (Option Value)} {oc__law_stream kV__law_stream dc__law_stream pm__law_stream cd__law_stream ct__law_stream : Value}
    {od__law_draw an__law_draw : Option Addr} {sl__law_draw : Array (Option Value)} {oc__law_draw kV__law_draw dc__law_draw pm__law_draw cd__law_draw ct__law_draw : Value}
    {od__law_row an__law_row : Option Addr} {sl__law_row : Array (Option Value)} {oc__law_row kV__law_row dc__law_row pm__law_row cd__law_row ct__law_row : Value}
    {od_is_whole an_is_whole : Option Addr} {sl_is_whole : Array (Option Value)} {oc_is_whole kV_is_whole dc_is_whole pm_is_whole cd_is_whole ct_is_whole : Value}
    {od_is_place an_is_place : Option Addr} {sl_is_place : Array (Option Value)} {oc_is_place kV_is_place dc_is_place pm_is_place cd_is_place ct_is_place : Value}
    {od_is_window an_is_window : Option Addr} {sl_is_window : Array (Option Value)} {oc_is_window kV_is_window dc_is_window pm_is_window cd_is_window ct_is_window : Value}
    {od_check_window an_check_window : Option Addr} {sl_check_window : Array (Option Value)} {oc_check_window kV_check_window dc_check_window pm_check_window cd_check_window ct_check_window : Value}
    {od_leads_out an_leads_out : Option Addr} {sl_leads_out : Array (Option Value)} {oc_leads_out kV_leads_out dc_leads_out pm_leads_out cd_leads_out ct_leads_out : Value}
    {od_least_of an_least_of : Option Addr} {sl_least_of : Array (Option Value)} {oc_least_of kV_least_of dc_least_of pm_least_of cd_least_of ct_least_of : Value}
    {od_window_tree an_window_tree : Option Addr} {sl_window_tree : Array (Option Value)} {oc_window_tree kV_window_tree dc_window_tree pm_window_tree cd_window_tree ct_window_tree : Value}
    {od_tree_of an_tree_of : Option Addr} {sl_tree_of : Array (Option Value)} {oc_tree_of kV_tree_of dc_tree_of pm_tree_of cd_tree_of ct_tree_of : Value}
    {od_distances_at an_distances_at : Option Addr} {sl_distances_at : Array (Option Value)} {oc_distances_at kV_distances_at dc_distances_at pm_distances_at cd_distances_at ct_distances_at : Value}
    {od_is_shape_up_to an_is_shape_up_to : Option Addr} {sl_is_shape_up_to : Array (Option Value)} {oc_is_shape_up_to kV_is_shape_up_to dc_is_shape_up_to pm_is_shape_up_to cd_is_shape_up_to ct_is_shape_up_to : Value}
    {od_is_shape an_is_shape : Option Addr} {sl_is_shape : Array (Option Value)} {oc_is_shape kV_is_shape dc_is_shape pm_is_shape cd_is_shape ct_is_shape : Value}
    {od_is_tree an_is_tree : Option Addr} {sl_is_tree : Array (Option Value)} {oc_is_tree kV_is_tree dc_is_tree pm_is_tree cd_is_tree ct_is_tree : Value}
    {od_tree_distances an_tree_distances : Option Addr} {sl_tree_distances : Array (Option Value)} {oc_tree_distances kV_tree_distances dc_tree_distances pm_tree_distances cd_tree_distances ct_tree_distances : Value}
    {od_tree_shape an_tree_shape : Option Addr} {sl_tree_shape : Array (Option Value)} {oc_tree_shape kV_tree_shape dc_tree_shape pm_tree_shape cd_tree_shape ct_tree_shape : Value}
    {od__law_shape an__law_shape : Option Addr} {sl__law_shape : Array (Option Value)} {oc__law_shape kV__law_shape dc__law_shape pm__law_shape cd__law_shape ct__law_shape : Value}
    {od__law_drawn an__law_drawn : Option Addr} {sl__law_drawn : Array (Option Value)} {oc__law_drawn kV__law_drawn dc__law_drawn pm__law_drawn cd__law_drawn ct__law_drawn : Value}
    {od__law_all_shapes an__law_all_shapes : Option Addr} {sl__law_all_shapes : Array (Option Value)} {oc__law_all_shapes kV__law_all_shapes dc__law_all_shapes pm__law_all_shapes cd__law_all_shapes ct__law_all_shapes : Value}
    {od_law an_law : Option Addr} {sl_law : Array (Option Value)} {oc_law kV_law dc_law pm_law cd_law ct_law : Value}
    {t_MAX_PLACES : Tok}
    (ha__law_stream : PySem.W.nsIn K mainGlobals "_law_stream" = some (some (.ref f__law_stream)))
    (hl__law_stream : K.lookup f__law_stream = some ⟨oc__law_stream, od__law_stream, .func (PySem.W.fnOf "_law_stream" "_law_stream" (defArgs sStream) (defBody sStream) (defScope sStream) .none kV__law_stream dc__law_stream pm__law_stream an__law_stream cd__law_stream ct__law_stream), sl__law_stream⟩)
    (hc__law_stream : PySem.W.codeIn K cd__law_stream "_law_stream" = true)
    (hk__law_stream : PySem.W.keepIn K (.ref f__law_stream) = true)
    (ha__law_draw : PySem.W.nsIn K mainGlobals "_law_draw" = some (some (.ref f__law_draw)))
    (hl__law_draw : K.lookup f__law_draw = some ⟨oc__law_draw, od__law_draw, .func (PySem.W.fnOf "_law_draw" "_law_draw" (defArgs sDraw) (defBody sDraw) (defScope sDraw) .none kV__law_draw dc__law_draw pm__law_draw an__law_draw cd__law_draw ct__law_draw), sl__law_draw⟩)
    (hc__law_draw : PySem.W.codeIn K cd__law_draw "_law_draw" = true)
    (hk__law_draw : PySem.W.keepIn K (.ref f__law_draw) = true)
    (ha__law_row : PySem.W.nsIn K mainGlobals "_law_row" = some (some (.ref f__law_row)))
    (hl__law_row : K.lookup f__law_row = some ⟨oc__law_row, od__law_row, .func (PySem.W.fnOf "_law_row" "_law_row" (defArgs sRow) (defBody sRow) (defScope sRow) .none kV__law_row dc__law_row pm__law_row an__law_row cd__law_row ct__law_row), sl__law_row⟩)
    (hc__law_row : PySem.W.codeIn K cd__law_row "_law_row" = true)
    (hk__law_row : PySem.W.keepIn K (.ref f__law_row) = true)
    (ha_is_whole : PySem.W.nsIn K mainGlobals "is_whole" = some (some (.ref f_is_whole)))
    (hl_is_whole : K.lookup f_is_whole = some ⟨oc_is_whole, od_is_whole, .func (PySem.W.fnOf "is_whole" "is_whole" (defArgs s_is_whole) (defBody s_is_whole) (defScope s_is_whole) .none kV_is_whole dc_is_whole pm_is_whole an_is_whole cd_is_whole ct_is_whole), sl_is_whole⟩)
    (hc_is_whole : PySem.W.codeIn K cd_is_whole "is_whole" = true)
    (hk_is_whole : PySem.W.keepIn K (.ref f_is_whole) = true)
    (ha_is_place : PySem.W.nsIn K mainGlobals "is_place" = some (some (.ref f_is_place)))
    (hl_is_place : K.lookup f_is_place = some ⟨oc_is_place, od_is_place, .func (PySem.W.fnOf "is_place" "is_place" (defArgs s_is_place) (defBody s_is_place) (defScope s_is_place) .none kV_is_place dc_is_place pm_is_place an_is_place cd_is_place ct_is_place), sl_is_place⟩)
    (hc_is_place : PySem.W.codeIn K cd_is_place "is_place" = true)
    (hk_is_place : PySem.W.keepIn K (.ref f_is_place) = true)
    (ha_is_window : PySem.W.nsIn K mainGlobals "is_window" = some (some (.ref f_is_window)))
    (hl_is_window : K.lookup f_is_window = some ⟨oc_is_window, od_is_window, .func (PySem.W.fnOf "is_window" "is_window" (defArgs s_is_window) (defBody s_is_window) (defScope s_is_window) .none kV_is_window dc_is_window pm_is_window an_is_window cd_is_window ct_is_window), sl_is_window⟩)
    (hc_is_window : PySem.W.codeIn K cd_is_window "is_window" = true)
    (hk_is_window : PySem.W.keepIn K (.ref f_is_window) = true)
    (ha_check_window : PySem.W.nsIn K mainGlobals "check_window" = some (some (.ref f_check_window)))
    (hl_check_window : K.lookup f_check_window = some ⟨oc_check_window, od_check_window, .func (PySem.W.fnOf "check_window" "check_window" (defArgs s_check_window) (defBody s_check_window) (defScope s_check_window) .none kV_check_window dc_check_window pm_check_window an_check_window cd_check_window ct_check_window), sl_check_window⟩)
    (hc_check_window : PySem.W.codeIn K cd_check_window "check_window" = true)
    (hk_check_window : PySem.W.keepIn K (.ref f_check_window) = true)
    (ha_leads_out : PySem.W.nsIn K mainGlobals "leads_out" = some (some (.ref f_leads_out)))
    (hl_leads_out : K.lookup f_leads_out = some ⟨oc_leads_out, od_leads_out, .func (PySem.W.fnOf "leads_out" "leads_out" (defArgs s_leads_out) (defBody s_leads_out) (defScope s_leads_out) .none kV_leads_out dc_leads_out pm_leads_out an_leads_out cd_leads_out ct_leads_out), sl_leads_out⟩)
    (hc_leads_out : PySem.W.codeIn K cd_leads_out "leads_out" = true)
    (hk_leads_out : PySem.W.keepIn K (.ref f_leads_out) = true)
    (ha_least_of : PySem.W.nsIn K mainGlobals "least_of" = some (some (.ref f_least_of)))
    (hl_least_of : K.lookup f_least_of = some ⟨oc_least_of, od_least_of, .func (PySem.W.fnOf "least_of" "least_of" (defArgs s_least_of) (defBody s_least_of) (defScope s_least_of) .none kV_least_of dc_least_of pm_least_of an_least_of cd_least_of ct_least_of), sl_least_of⟩)
    (hc_least_of : PySem.W.codeIn K cd_least_of "least_of" = true)
    (hk_least_of : PySem.W.keepIn K (.ref f_least_of) = true)
    (ha_window_tree : PySem.W.nsIn K mainGlobals "window_tree" = some (some (.ref f_window_tree)))
    (hl_window_tree : K.lookup f_window_tree = some ⟨oc_window_tree, od_window_tree, .func (PySem.W.fnOf "window_tree" "window_tree" (defArgs s_window_tree) (defBody s_window_tree) (defScope s_window_tree) .none kV_window_tree dc_window_tree pm_window_tree an_window_tree cd_window_tree ct_window_tree), sl_window_tree⟩)
    (hc_window_tree : PySem.W.codeIn K cd_window_tree "window_tree" = true)
    (hk_window_tree : PySem.W.keepIn K (.ref f_window_tree) = true)
    (ha_tree_of : PySem.W.nsIn K mainGlobals "tree_of" = some (some (.ref f_tree_of)))
    (hl_tree_of : K.lookup f_tree_of = some ⟨oc_tree_of, od_tree_of, .func (PySem.W.fnOf "tree_of" "tree_of" (defArgs s_tree_of) (defBody s_tree_of) (defScope s_tree_of) .none kV_tree_of dc_tree_of pm_tree_of an_tree_of cd_tree_of ct_tree_of), sl_tree_of⟩)
    (hc_tree_of : PySem.W.codeIn K cd_tree_of "tree_of" = true)
    (hk_tree_of : PySem.W.keepIn K (.ref f_tree_of) = true)
    (ha_distances_at : PySem.W.nsIn K mainGlobals "distances_at" = some (some (.ref f_distances_at)))
    (hl_distances_at : K.lookup f_distances_at = some ⟨oc_distances_at, od_distances_at, .func (PySem.W.fnOf "distances_at" "distances_at" (defArgs s_distances_at) (defBody s_distances_at) (defScope s_distances_at) .none kV_distances_at dc_distances_at pm_distances_at an_distances_at cd_distances_at ct_distances_at), sl_distances_at⟩)
    (hc_distances_at : PySem.W.codeIn K cd_distances_at "distances_at" = true)
    (hk_distances_at : PySem.W.keepIn K (.ref f_distances_at) = true)
    (ha_is_shape_up_to : PySem.W.nsIn K mainGlobals "is_shape_up_to" = some (some (.ref f_is_shape_up_to)))
    (hl_is_shape_up_to : K.lookup f_is_shape_up_to = some ⟨oc_is_shape_up_to, od_is_shape_up_to, .func (PySem.W.fnOf "is_shape_up_to" "is_shape_up_to" (defArgs s_is_shape_up_to) (defBody s_is_shape_up_to) (defScope s_is_shape_up_to) .none kV_is_shape_up_to dc_is_shape_up_to pm_is_shape_up_to an_is_shape_up_to cd_is_shape_up_to ct_is_shape_up_to), sl_is_shape_up_to⟩)
    (hc_is_shape_up_to : PySem.W.codeIn K cd_is_shape_up_to "is_shape_up_to" = true)
    (hk_is_shape_up_to : PySem.W.keepIn K (.ref f_is_shape_up_to) = true)
    (ha_is_shape : PySem.W.nsIn K mainGlobals "is_shape" = some (some (.ref f_is_shape)))
    (hl_is_shape : K.lookup f_is_shape = some ⟨oc_is_shape, od_is_shape, .func (PySem.W.fnOf "is_shape" "is_shape" (defArgs s_is_shape) (defBody s_is_shape) (defScope s_is_shape) .none kV_is_shape dc_is_shape pm_is_shape an_is_shape cd_is_shape ct_is_shape), sl_is_shape⟩)
    (hc_is_shape : PySem.W.codeIn K cd_is_shape "is_shape" = true)
    (hk_is_shape : PySem.W.keepIn K (.ref f_is_shape) = true)
    (ha_is_tree : PySem.W.nsIn K mainGlobals "is_tree" = some (some (.ref f_is_tree)))
    (hl_is_tree : K.lookup f_is_tree = some ⟨oc_is_tree, od_is_tree, .func (PySem.W.fnOf "is_tree" "is_tree" (defArgs s_is_tree) (defBody s_is_tree) (defScope s_is_tree) .none kV_is_tree dc_is_tree pm_is_tree an_is_tree cd_is_tree ct_is_tree), sl_is_tree⟩)
    (hc_is_tree : PySem.W.codeIn K cd_is_tree "is_tree" = true)
    (hk_is_tree : PySem.W.keepIn K (.ref f_is_tree) = true)
    (ha_tree_distances : PySem.W.nsIn K mainGlobals "tree_distances" = some (some (.ref f_tree_distances)))
    (hl_tree_distances : K.lookup f_tree_distances = some ⟨oc_tree_distances, od_tree_distances, .func (PySem.W.fnOf "tree_distances" "tree_distances" (defArgs s_tree_distances) (defBody s_tree_distances) (defScope s_tree_distances) .none kV_tree_distances dc_tree_distances pm_tree_distances an_tree_distances cd_tree_distances ct_tree_distances), sl_tree_distances⟩)
    (hc_tree_distances : PySem.W.codeIn K cd_tree_distances "tree_distances" = true)
    (hk_tree_distances : PySem.W.keepIn K (.ref f_tree_distances) = true)
    (ha_tree_shape : PySem.W.nsIn K mainGlobals "tree_shape" = some (some (.ref f_tree_shape)))
    (hl_tree_shape : K.lookup f_tree_shape = some ⟨oc_tree_shape, od_tree_shape, .func (PySem.W.fnOf "tree_shape" "tree_shape" (defArgs s_tree_shape) (defBody s_tree_shape) (defScope s_tree_shape) .none kV_tree_shape dc_tree_shape pm_tree_shape an_tree_shape cd_tree_shape ct_tree_shape), sl_tree_shape⟩)
    (hc_tree_shape : PySem.W.codeIn K cd_tree_shape "tree_shape" = true)
    (hk_tree_shape : PySem.W.keepIn K (.ref f_tree_shape) = true)
    (ha__law_shape : PySem.W.nsIn K mainGlobals "_law_shape" = some (some (.ref f__law_shape)))
    (hl__law_shape : K.lookup f__law_shape = some ⟨oc__law_shape, od__law_shape, .func (PySem.W.fnOf "_law_shape" "_law_shape" (defArgs s__law_shape) (defBody s__law_shape) (defScope s__law_shape) .none kV__law_shape dc__law_shape pm__law_shape an__law_shape cd__law_shape ct__law_shape), sl__law_shape⟩)
    (hc__law_shape : PySem.W.codeIn K cd__law_shape "_law_shape" = true)
    (hk__law_shape : PySem.W.keepIn K (.ref f__law_shape) = true)
    (ha__law_drawn : PySem.W.nsIn K mainGlobals "_law_drawn" = some (some (.ref f__law_drawn)))
    (hl__law_drawn : K.lookup f__law_drawn = some ⟨oc__law_drawn, od__law_drawn, .func (PySem.W.fnOf "_law_drawn" "_law_drawn" (defArgs s__law_drawn) (defBody s__law_drawn) (defScope s__law_drawn) .none kV__law_drawn dc__law_drawn pm__law_drawn an__law_drawn cd__law_drawn ct__law_drawn), sl__law_drawn⟩)
    (hc__law_drawn : PySem.W.codeIn K cd__law_drawn "_law_drawn" = true)
    (hk__law_drawn : PySem.W.keepIn K (.ref f__law_drawn) = true)
    (ha__law_all_shapes : PySem.W.nsIn K mainGlobals "_law_all_shapes" = some (some (.ref f__law_all_shapes)))
    (hl__law_all_shapes : K.lookup f__law_all_shapes = some ⟨oc__law_all_shapes, od__law_all_shapes, .func (PySem.W.fnOf "_law_all_shapes" "_law_all_shapes" (defArgs s__law_all_shapes) (defBody s__law_all_shapes) (defScope s__law_all_shapes) .none kV__law_all_shapes dc__law_all_shapes pm__law_all_shapes an__law_all_shapes cd__law_all_shapes ct__law_all_shapes), sl__law_all_shapes⟩)
    (hc__law_all_shapes : PySem.W.codeIn K cd__law_all_shapes "_law_all_shapes" = true)
    (hk__law_all_shapes : PySem.W.keepIn K (.ref f__law_all_shapes) = true)
    (ha_law : PySem.W.nsIn K mainGlobals "law" = some (some (.ref f_law)))
    (hl_law : K.lookup f_law = some ⟨oc_law, od_law, .func (PySem.W.fnOf "law" "law" (defArgs s_law) (defBody s_law) (defScope s_law) .none kV_law dc_law pm_law an_law cd_law ct_law), sl_law⟩)
    (hc_law : PySem.W.codeIn K cd_law "law" = true)
    (hk_law : PySem.W.keepIn K (.ref f_law) = true)
    (z_abs : PySem.W.nsIn K mainGlobals "abs" = some none)
    (z_bool : PySem.W.nsIn K mainGlobals "bool" = some none)
    (z_enumerate : PySem.W.nsIn K mainGlobals "enumerate" = some none)
    (z_int : PySem.W.nsIn K mainGlobals "int" = some none)
    (z_isinstance : PySem.W.nsIn K mainGlobals "isinstance" = some none)
    (z_len : PySem.W.nsIn K mainGlobals "len" = some none)
    (z_max : PySem.W.nsIn K mainGlobals "max" = some none)
    (z_range : PySem.W.nsIn K mainGlobals "range" = some none)
    (z_repr : PySem.W.nsIn K mainGlobals "repr" = some none)
    (z_set : PySem.W.nsIn K mainGlobals "set" = some none)
    (z_sorted : PySem.W.nsIn K mainGlobals "sorted" = some none)
    (z_tuple : PySem.W.nsIn K mainGlobals "tuple" = some none)
    (y_MAX_PLACES : PySem.W.nsIn K mainGlobals "MAX_PLACES" = some (some (.int G_MAX_PLACES t_MAX_PLACES))) :
    ∃ fd : FuncData, (∀ (s : Shared) (v : Value), BindsTo s fd ⟨[v], []⟩ [("_law_script", v)]) ∧ ∀ base : Heap, K.In base → base.Ns mainGlobals mg → FnG l.prog w K mg base CX0 21 fa fd ["_law_script"] (spLaw K) := by
  have e := hfa.symm.trans (PySem.W.mg_of X G ha_law)
  cases e
  have F__law_stream := fun_mk (st := sStream) hl__law_stream hc__law_stream hk__law_stream
  have b__law_stream := F__law_stream.binds (ps := ["_law_script"]) fun _ _ _ _ _ _ us hl => match us, hl with | [_], _ => rfl
  have F__law_draw := fun_mk (st := sDraw) hl__law_draw hc__law_draw hk__law_draw
  have b__law_draw := F__law_draw.binds (ps := ["_law_stream_here", "_law_many"]) fun _ _ _ _ _ _ us hl => match us, hl with | [_, _], _ => rfl
  have F__law_row := fun_mk (st := sRow) hl__law_row hc__law_row hk__law_row
  have b__law_row := F__law_row.binds (ps := ["_law_stream_here", "_law_most"]) fun _ _ _ _ _ _ us hl => match us, hl with | [_, _], _ => rfl
  have F_is_whole := fun_mk (st := s_is_whole) hl_is_whole hc_is_whole hk_is_whole
  have b_is_whole := F_is_whole.binds (ps := ["value"]) fun _ _ _ _ _ _ us hl => match us, hl with | [_], _ => rfl
  have F_is_place := fun_mk (st := s_is_place) hl_is_place hc_is_place hk_is_place
  have b_is_place := F_is_place.binds (ps := ["many", "value"]) fun _ _ _ _ _ _ us hl => match us, hl with | [_, _], _ => rfl
  have F_is_window := fun_mk (st := s_is_window) hl_is_window hc_is_window hk_is_window
  have b_is_window := F_is_window.binds (ps := ["many", "first", "last"]) fun _ _ _ _ _ _ us hl => match us, hl with | [_, _, _], _ => rfl
  have F_check_window := fun_mk (st := s_check_window) hl_check_window hc_check_window hk_check_window
  have b_check_window := F_check_window.binds (ps := ["many", "first", "last"]) fun _ _ _ _ _ _ us hl => match us, hl with | [_, _, _], _ => rfl
  have F_leads_out := fun_mk (st := s_leads_out) hl_leads_out hc_leads_out hk_leads_out
  have b_leads_out := F_leads_out.binds (ps := ["shape", "place", "first"]) fun _ _ _ _ _ _ us hl => match us, hl with | [_, _, _], _ => rfl
  have F_least_of := fun_mk (st := s_least_of) hl_least_of hc_least_of hk_least_of
  have b_least_of := F_least_of.binds (ps := ["shape", "first", "last"]) fun _ _ _ _ _ _ us hl => match us, hl with | [_, _, _], _ => rfl
  have F_window_tree := fun_mk (st := s_window_tree) hl_window_tree hc_window_tree hk_window_tree
  have b_window_tree := F_window_tree.binds (ps := ["shape", "first", "last"]) fun _ _ _ _ _ _ us hl => match us, hl with | [_, _, _], _ => rfl
  have F_tree_of := fun_mk (st := s_tree_of) hl_tree_of hc_tree_of hk_tree_of
  have b_tree_of := F_tree_of.binds (ps := ["shape"]) fun _ _ _ _ _ _ us hl => match us, hl with | [_], _ => rfl
  have F_distances_at := fun_mk (st := s_distances_at) hl_distances_at hc_distances_at hk_distances_at
  have b_distances_at := F_distances_at.binds (ps := ["shape", "place"]) fun _ _ _ _ _ _ us hl => match us, hl with | [_, _], _ => rfl
  have F_is_shape_up_to := fun_mk (st := s_is_shape_up_to) hl_is_shape_up_to hc_is_shape_up_to hk_is_shape_up_to
  have b_is_shape_up_to := F_is_shape_up_to.binds (ps := ["most", "value"]) fun _ _ _ _ _ _ us hl => match us, hl with | [_, _], _ => rfl
  have F_is_shape := fun_mk (st := s_is_shape) hl_is_shape hc_is_shape hk_is_shape
  have b_is_shape := F_is_shape.binds (ps := ["value"]) fun _ _ _ _ _ _ us hl => match us, hl with | [_], _ => rfl
  have F_is_tree := fun_mk (st := s_is_tree) hl_is_tree hc_is_tree hk_is_tree
  have b_is_tree := F_is_tree.binds (ps := ["value"]) fun _ _ _ _ _ _ us hl => match us, hl with | [_], _ => rfl
  have F_tree_distances := fun_mk (st := s_tree_distances) hl_tree_distances hc_tree_distances hk_tree_distances
  have b_tree_distances := F_tree_distances.binds (ps := ["tree", "follows"]) fun _ _ _ _ _ _ us hl => match us, hl with | [_, _], _ => rfl
  have F_tree_shape := fun_mk (st := s_tree_shape) hl_tree_shape hc_tree_shape hk_tree_shape
  have b_tree_shape := F_tree_shape.binds (ps := ["tree"]) fun _ _ _ _ _ _ us hl => match us, hl with | [_], _ => rfl
  have F__law_shape := fun_mk (st := s__law_shape) hl__law_shape hc__law_shape hk__law_shape
  have b__law_shape := F__law_shape.binds (ps := ["_law_row_here"]) fun _ _ _ _ _ _ us hl => match us, hl with | [_], _ => rfl
  have F__law_drawn := fun_mk (st := s__law_drawn) hl__law_drawn hc__law_drawn hk__law_drawn
  have b__law_drawn := F__law_drawn.binds (ps := ["_law_stream_here", "_law_many"]) fun _ _ _ _ _ _ us hl => match us, hl with | [_, _], _ => rfl
  have F__law_all_shapes := fun_mk (st := s__law_all_shapes) hl__law_all_shapes hc__law_all_shapes hk__law_all_shapes
  have b__law_all_shapes := F__law_all_shapes.binds (ps := ["_law_many"]) fun _ _ _ _ _ _ us hl => match us, hl with | [_], _ => rfl
  have F_law := fun_mk (st := s_law) hl_law hc_law hk_law
  have b_law := F_law.binds (ps := ["_law_script"]) fun _ _ _ _ _ _ us hl => match us, hl with | [_], _ => rfl
  have gm__law_stream := PySem.W.mg_of X G ha__law_stream
  have gm__law_draw := PySem.W.mg_of X G ha__law_draw
  have gm__law_row := PySem.W.mg_of X G ha__law_row
  have gm_is_whole := PySem.W.mg_of X G ha_is_whole
  have gm_is_place := PySem.W.mg_of X G ha_is_place
  have gm_is_window := PySem.W.mg_of X G ha_is_window
  have gm_check_window := PySem.W.mg_of X G ha_check_window
  have gm_leads_out := PySem.W.mg_of X G ha_leads_out
  have gm_least_of := PySem.W.mg_of X G ha_least_of
  have gm_window_tree := PySem.W.mg_of X G ha_window_tree
  have gm_tree_of := PySem.W.mg_of X G ha_tree_of
  have gm_distances_at := PySem.W.mg_of X G ha_distances_at
  have gm_is_shape_up_to := PySem.W.mg_of X G ha_is_shape_up_to
  have gm_is_shape := PySem.W.mg_of X G ha_is_shape
  have gm_is_tree := PySem.W.mg_of X G ha_is_tree
  have gm_tree_distances := PySem.W.mg_of X G ha_tree_distances
  have gm_tree_shape := PySem.W.mg_of X G ha_tree_shape
  have gm__law_shape := PySem.W.mg_of X G ha__law_shape
  have gm__law_drawn := PySem.W.mg_of X G ha__law_drawn
  have gm__law_all_shapes := PySem.W.mg_of X G ha__law_all_shapes
  have gm_law := PySem.W.mg_of X G ha_law
  have m_abs := PySem.W.mg_none_of X G z_abs
  have m_bool := PySem.W.mg_none_of X G z_bool
  have m_enumerate := PySem.W.mg_none_of X G z_enumerate
  have m_int := PySem.W.mg_none_of X G z_int
  have m_isinstance := PySem.W.mg_none_of X G z_isinstance
  have m_len := PySem.W.mg_none_of X G z_len
  have m_max := PySem.W.mg_none_of X G z_max
  have m_range := PySem.W.mg_none_of X G z_range
  have m_repr := PySem.W.mg_none_of X G z_repr
  have m_set := PySem.W.mg_none_of X G z_set
  have m_sorted := PySem.W.mg_none_of X G z_sorted
  have m_tuple := PySem.W.mg_none_of X G z_tuple
  have g_MAX_PLACES := PySem.W.mg_of X G y_MAX_PLACES
  refine ⟨PySem.W.fnOf "law" "law" (defArgs s_law) (defBody s_law) (defScope s_law) .none kV_law dc_law pm_law an_law cd_law ct_law, fun s v => .of_eq rfl, fun base _ _ => ?_⟩
  have S0 : FnOk l.prog w K mg base CX0 1 f__law_stream _ ["_law_script"] (spStream K) := ok_stream (k := 0) F__law_stream m_len m_abs
  have D0 : FnOk l.prog w K mg base CX0 1 f__law_draw _ ["_law_stream_here", "_law_many"] spDraw := ok_draw (k := 0) F__law_draw m_len
  have c__law_draw : Cd l.prog w K mg base 1 "_law_draw" f__law_draw _ ["_law_stream_here", "_law_many"] C__law_draw := ⟨D0.imp draw_sp, hk__law_draw, b__law_draw, gm__law_draw⟩
  have R0 : FnOk l.prog w K mg base CX0 2 f__law_row _ ["_law_stream_here", "_law_most"] spRow := ok_row (k := 1) F__law_row D0 F__law_draw b__law_draw gm__law_draw m_range m_sorted m_tuple
  have c__law_row : Cd l.prog w K mg base 2 "_law_row" f__law_row _ ["_law_stream_here", "_law_most"] C__law_row := ⟨R0.imp row_sp, hk__law_row, b__law_row, gm__law_row⟩
  have c_is_whole : Cd l.prog w K mg base 1 "is_whole" f_is_whole _ ["value"] C_is_whole := ⟨ok_is_whole (k := 0) F_is_whole m_bool m_int m_isinstance, hk_is_whole, b_is_whole, gm_is_whole⟩
  have c_is_place : Cd l.prog w K mg base 2 "is_place" f_is_place _ ["many", "value"] C_is_place := ⟨ok_is_place (k := 1) F_is_place (c_is_whole.mono (by decide)), hk_is_place, b_is_place, gm_is_place⟩
  have c_is_window : Cd l.prog w K mg base 3 "is_window" f_is_window _ ["many", "first", "last"] C_is_window := ⟨ok_is_window (k := 2) F_is_window (c_is_place.mono (by decide)), hk_is_window, b_is_window, gm_is_window⟩
  have c_check_window : Cd l.prog w K mg base 4 "check_window" f_check_window _ ["many", "first", "last"] C_check_window := ⟨ok_check_window (k := 3) F_check_window (c_is_window.mono (by decide)), hk_check_window, b_check_window, gm_check_window⟩
  have c_leads_out : Cd l.prog w K mg base 1 "leads_out" f_leads_out _ ["shape", "place", "first"] C_leads_out := ⟨ok_leads_out (k := 0) F_leads_out , hk_leads_out, b_leads_out, gm_leads_out⟩
  have c_least_of : Cd l.prog w K mg base 5 "least_of" f_least_of _ ["shape", "first", "last"] C_least_of := ⟨ok_least_of (k := 4) F_least_of (c_leads_out.mono (by decide)) (c_check_window.mono (by decide)) m_len m_range, hk_least_of, b_least_of, gm_least_of⟩
  have c_window_tree : Cd l.prog w K mg base 19 "window_tree" f_window_tree _ ["shape", "first", "last"] (C_window_tree 13) := ⟨rec_window_tree (k := 5) F_window_tree (c_least_of.mono (by decide)) hk_window_tree b_window_tree gm_window_tree 13, hk_window_tree, b_window_tree, gm_window_tree⟩
  have c_tree_of : Cd l.prog w K mg base 20 "tree_of" f_tree_of _ ["shape"] C_tree_of := ⟨ok_tree_of (k := 19) F_tree_of (c_window_tree.mono (by decide)) m_len, hk_tree_of, b_tree_of, gm_tree_of⟩
  have c_distances_at : Cd l.prog w K mg base 1 "distances_at" f_distances_at _ ["shape", "place"] C_distances_at := ⟨ok_distances_at (k := 0) F_distances_at , hk_distances_at, b_distances_at, gm_distances_at⟩
  have c_is_shape_up_to : Cd l.prog w K mg base 2 "is_shape_up_to" f_is_shape_up_to _ ["most", "value"] C_is_shape_up_to := ⟨ok_is_shape_up_to (k := 1) F_is_shape_up_to (c_distances_at.mono (by decide)) (c_is_whole.mono (by decide)) m_enumerate m_isinstance m_len m_tuple, hk_is_shape_up_to, b_is_shape_up_to, gm_is_shape_up_to⟩
  have c_is_shape : Cd l.prog w K mg base 3 "is_shape" f_is_shape _ ["value"] C_is_shape := ⟨ok_is_shape (k := 2) F_is_shape (c_is_shape_up_to.mono (by decide)) g_MAX_PLACES, hk_is_shape, b_is_shape, gm_is_shape⟩
  have c_is_tree : Cd l.prog w K mg base 1 "is_tree" f_is_tree _ ["value"] C_is_tree := ⟨ok_is_tree (k := 0) F_is_tree m_isinstance m_len m_tuple g_MAX_PLACES, hk_is_tree, b_is_tree, gm_is_tree⟩
  have c_tree_distances : Cd l.prog w K mg base 14 "tree_distances" f_tree_distances _ ["tree", "follows"] (C_tree_distances 13) := ⟨rec_tree_distances (k := 0) F_tree_distances m_len hk_tree_distances b_tree_distances gm_tree_distances 13, hk_tree_distances, b_tree_distances, gm_tree_distances⟩
  have c_tree_shape : Cd l.prog w K mg base 15 "tree_shape" f_tree_shape _ ["tree"] C_tree_shape := ⟨ok_tree_shape (k := 14) F_tree_shape (c_tree_distances.mono (by decide)) m_tuple, hk_tree_shape, b_tree_shape, gm_tree_shape⟩
  have c__law_shape : Cd l.prog w K mg base 1 "_law_shape" f__law_shape _ ["_law_row_here"] C__law_shape := ⟨ok__law_shape (k := 0) F__law_shape m_len m_max m_range m_tuple, hk__law_shape, b__law_shape, gm__law_shape⟩
  have c__law_drawn : Cd l.prog w K mg base 15 "_law_drawn" f__law_drawn _ ["_law_stream_here", "_law_many"] (C__law_drawn 13) := ⟨rec__law_drawn (k := 1) F__law_drawn (c__law_draw.mono (by decide)) hk__law_drawn b__law_drawn gm__law_drawn 13, hk__law_drawn, b__law_drawn, gm__law_drawn⟩
  have c__law_all_shapes : Cd l.prog w K mg base 1 "_law_all_shapes" f__law_all_shapes _ ["_law_many"] C__law_all_shapes := ⟨ok__law_all_shapes (k := 0) F__law_all_shapes m_len m_range, hk__law_all_shapes, b__law_all_shapes, gm__law_all_shapes⟩
  exact ok_law (k := 20) F_law ⟨S0.mono (by decide), hk__law_stream, b__law_stream, gm__law_stream⟩ (c_tree_shape.mono (by decide)) (c_tree_of.mono (by decide)) (c__law_all_shapes.mono (by decide)) (c__law_draw.mono (by decide)) (c_is_shape.mono (by decide)) (c_is_tree.mono (by decide)) (c__law_drawn.mono (by decide)) (c__law_shape.mono (by decide)) (c__law_row.mono (by decide)) m_len m_range m_repr m_set
end Lw
open PySem PySem.W PyProof.Rows
set_option maxHeartbeats 0 in
theorem PySem.Challenge.cw_leastplaces_k16_whole_trees_there_and_ba_holds : PySem.Challenge.rw_leastplaces_k16_whole_trees_there_and_ba.Holds := by
  w_on; o_law; k_head; (case hw => w_witness2)
  k_fill
  refine Gd.walk_G (l := PySem.Challenge.rw_leastplaces_k16_whole_trees_there_and_ba) (n := 63) (k := 21) (x := "_law_script") (sp := Lw.spLaw) rfl (by decide) rfl ⟨rfl, by decide, by decide⟩ (fun w h Y => PySem.W.kIn_of Y) ?F (fun _ _ a ns hl _ hS => ⟨a, ns, rfl, hS, hl, fun _ => rfl⟩)
  case F =>
    intro w mg fa h KX G hmg
    refine' Lw.all_mk KX G hmg ?ha__law_stream ?hl__law_stream ?hc__law_stream ?hk__law_stream ?ha__law_draw ?hl__law_draw ?hc__law_draw ?hk__law_draw ?ha__law_row ?hl__law_row ?hc__law_row ?hk__law_row ?ha_is_whole ?hl_is_whole ?hc_is_whole ?hk_is_whole ?ha_is_place ?hl_is_place ?hc_is_place ?hk_is_place ?ha_is_window ?hl_is_window ?hc_is_window ?hk_is_window ?ha_check_window ?hl_check_window ?hc_check_window ?hk_check_window ?ha_leads_out ?hl_leads_out ?hc_leads_out ?hk_leads_out ?ha_least_of ?hl_least_of ?hc_least_of ?hk_least_of ?ha_window_tree ?hl_window_tree ?hc_window_tree ?hk_window_tree ?ha_tree_of ?hl_tree_of ?hc_tree_of ?hk_tree_of ?ha_distances_at ?hl_distances_at ?hc_distances_at ?hk_distances_at ?ha_is_shape_up_to ?hl_is_shape_up_to ?hc_is_shape_up_to ?hk_is_shape_up_to ?ha_is_shape ?hl_is_shape ?hc_is_shape ?hk_is_shape ?ha_is_tree ?hl_is_tree ?hc_is_tree ?hk_is_tree ?ha_tree_distances ?hl_tree_distances ?hc_tree_distances ?hk_tree_distances ?ha_tree_shape ?hl_tree_shape ?hc_tree_shape ?hk_tree_shape ?ha__law_shape ?hl__law_shape ?hc__law_shape ?hk__law_shape ?ha__law_drawn ?hl__law_drawn ?hc__law_drawn ?hk__law_drawn ?ha__law_all_shapes ?hl__law_all_shapes ?hc__law_all_shapes ?hk__law_all_shapes ?ha_law ?hl_law ?hc_law ?hk_law ?z_abs ?z_bool ?z_enumerate ?z_int ?z_isinstance ?z_len ?z_max ?z_range ?z_repr ?z_set ?z_sorted ?z_tuple ?y_MAX_PLACES
    (case ha__law_stream => first | k_is | kit_is | kernel_rfl | rfl); (case hl__law_stream => first | k_is | kit_is | kernel_rfl | rfl); (case hc__law_stream => first | k_is | kit_is | kernel_rfl | rfl); (case hk__law_stream => first | k_is | kit_is | kernel_rfl | rfl); (case ha__law_draw => first | k_is | kit_is | kernel_rfl | rfl); (case hl__law_draw => first | k_is | kit_is | kernel_rfl | rfl); (case hc__law_draw => first | k_is | kit_is | kernel_rfl | rfl); (case hk__law_draw => first | k_is | kit_is | kernel_rfl | rfl); (case ha__law_row => first | k_is | kit_is | kernel_rfl | rfl); (case hl__law_row => first | k_is | kit_is | kernel_rfl | rfl); (case hc__law_row => first | k_is | kit_is | kernel_rfl | rfl); (case hk__law_row => first | k_is | kit_is | kernel_rfl | rfl); (case ha_is_whole => first | k_is | kit_is | kernel_rfl | rfl); (case hl_is_whole => first | k_is | kit_is | kernel_rfl | rfl); (case hc_is_whole => first | k_is | kit_is | kernel_rfl | rfl); (case hk_is_whole => first | k_is | kit_is | kernel_rfl | rfl); (case ha_is_place => first | k_is | kit_is | kernel_rfl | rfl); (case hl_is_place => first | k_is | kit_is | kernel_rfl | rfl); (case hc_is_place => first | k_is | kit_is | kernel_rfl | rfl); (case hk_is_place => first | k_is | kit_is | kernel_rfl | rfl); (case ha_is_window => first | k_is | kit_is | kernel_rfl | rfl); (case hl_is_window => first | k_is | kit_is | kernel_rfl | rfl); (case hc_is_window => first | k_is | kit_is | kernel_rfl | rfl); (case hk_is_window => first | k_is | kit_is | kernel_rfl | rfl); (case ha_check_window => first | k_is | kit_is | kernel_rfl | rfl); (case hl_check_window => first | k_is | kit_is | kernel_rfl | rfl); (case hc_check_window => first | k_is | kit_is | kernel_rfl | rfl); (case hk_check_window => first | k_is | kit_is | kernel_rfl | rfl); (case ha_leads_out => first | k_is | kit_is | kernel_rfl | rfl); (case hl_leads_out => first | k_is | kit_is | kernel_rfl | rfl); (case hc_leads_out => first | k_is | kit_is | kernel_rfl | rfl); (case hk_leads_out => first | k_is | kit_is | kernel_rfl | rfl); (case ha_least_of => first | k_is | kit_is | kernel_rfl | rfl); (case hl_least_of => first | k_is | kit_is | kernel_rfl | rfl); (case hc_least_of => first | k_is | kit_is | kernel_rfl | rfl); (case hk_least_of => first | k_is | kit_is | kernel_rfl | rfl); (case ha_window_tree => first | k_is | kit_is | kernel_rfl | rfl); (case hl_window_tree => first | k_is | kit_is | kernel_rfl | rfl); (case hc_window_tree => first | k_is | kit_is | kernel_rfl | rfl); (case hk_window_tree => first | k_is | kit_is | kernel_rfl | rfl); (case ha_tree_of => first | k_is | kit_is | kernel_rfl | rfl); (case hl_tree_of => first | k_is | kit_is | kernel_rfl | rfl); (case hc_tree_of => first | k_is | kit_is | kernel_rfl | rfl); (case hk_tree_of => first | k_is | kit_is | kernel_rfl | rfl); (case ha_distances_at => first | k_is | kit_is | kernel_rfl | rfl); (case hl_distances_at => first | k_is | kit_is | kernel_rfl | rfl); (case hc_distances_at => first | k_is | kit_is | kernel_rfl | rfl); (case hk_distances_at => first | k_is | kit_is | kernel_rfl | rfl); (case ha_is_shape_up_to => first | k_is | kit_is | kernel_rfl | rfl); (case hl_is_shape_up_to => first | k_is | kit_is | kernel_rfl | rfl); (case hc_is_shape_up_to => first | k_is | kit_is | kernel_rfl | rfl); (case hk_is_shape_up_to => first | k_is | kit_is | kernel_rfl | rfl); (case ha_is_shape => first | k_is | kit_is | kernel_rfl | rfl); (case hl_is_shape => first | k_is | kit_is | kernel_rfl | rfl); (case hc_is_shape => first | k_is | kit_is | kernel_rfl | rfl); (case hk_is_shape => first | k_is | kit_is | kernel_rfl | rfl); (case ha_is_tree => first | k_is | kit_is | kernel_rfl | rfl); (case hl_is_tree => first | k_is | kit_is | kernel_rfl | rfl); (case hc_is_tree => first | k_is | kit_is | kernel_rfl | rfl); (case hk_is_tree => first | k_is | kit_is | kernel_rfl | rfl); (case ha_tree_distances => first | k_is | kit_is | kernel_rfl | rfl); (case hl_tree_distances => first | k_is | kit_is | kernel_rfl | rfl); (case hc_tree_distances => first | k_is | kit_is | kernel_rfl | rfl); (case hk_tree_distances => first | k_is | kit_is | kernel_rfl | rfl); (case ha_tree_shape => first | k_is | kit_is | kernel_rfl | rfl); (case hl_tree_shape => first | k_is | kit_is | kernel_rfl | rfl); (case hc_tree_shape => first | k_is | kit_is | kernel_rfl | rfl); (case hk_tree_shape => first | k_is | kit_is | kernel_rfl | rfl); (case ha__law_shape => first | k_is | kit_is | kernel_rfl | rfl); (case hl__law_shape => first | k_is | kit_is | kernel_rfl | rfl); (case hc__law_shape => first | k_is | kit_is | kernel_rfl | rfl); (case hk__law_shape => first | k_is | kit_is | kernel_rfl | rfl); (case ha__law_drawn => first | k_is | kit_is | kernel_rfl | rfl); (case hl__law_drawn => first | k_is | kit_is | kernel_rfl | rfl); (case hc__law_drawn => first | k_is | kit_is | kernel_rfl | rfl); (case hk__law_drawn => first | k_is | kit_is | kernel_rfl | rfl); (case ha__law_all_shapes => first | k_is | kit_is | kernel_rfl | rfl); (case hl__law_all_shapes => first | k_is | kit_is | kernel_rfl | rfl); (case hc__law_all_shapes => first | k_is | kit_is | kernel_rfl | rfl); (case hk__law_all_shapes => first | k_is | kit_is | kernel_rfl | rfl); (case ha_law => first | k_is | kit_is | kernel_rfl | rfl); (case hl_law => first | k_is | kit_is | kernel_rfl | rfl); (case hc_law => first | k_is | kit_is | kernel_rfl | rfl); (case hk_law => first | k_is | kit_is | kernel_rfl | rfl); (case z_abs => first | k_is | kit_is | kernel_rfl | rfl); (case z_bool => first | k_is | kit_is | kernel_rfl | rfl); (case z_enumerate => first | k_is | kit_is | kernel_rfl | rfl); (case z_int => first | k_is | kit_is | kernel_rfl | rfl); (case z_isinstance => first | k_is | kit_is | kernel_rfl | rfl); (case z_len => first | k_is | kit_is | kernel_rfl | rfl); (case z_max => first | k_is | kit_is | kernel_rfl | rfl); (case z_range => first | k_is | kit_is | kernel_rfl | rfl); (case z_repr => first | k_is | kit_is | kernel_rfl | rfl); (case z_set => first | k_is | kit_is | kernel_rfl | rfl); (case z_sorted => first | k_is | kit_is | kernel_rfl | rfl); (case z_tuple => first | k_is | kit_is | kernel_rfl | rfl); (case y_MAX_PLACES => first | k_is | kit_is | kernel_rfl | rfl)
